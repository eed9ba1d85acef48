/-
  Several texts in one: Va1, Va2.
-/
import Derived.Test.YtbaafgjiblkckaaGreatRdp
import Derived.Test.YtbaafgjiblkckaaGreatSvAll
import Derived.Test.YtbaafgjiblkckaaGreatFlt
namespace Go.Proofs.YtbaafgjiblkckaaGreat
open Go.RowKit

theorem bt_ne {a b : ByteArray} (h : ¬ a = b) : (a.toList == b.toList) = false := by
  rw [ByteArray.toList_eq, ByteArray.toList_eq]
  have : ¬ a.data.toList = b.data.toList := fun e => h (by
    cases a with | mk x => cases b with | mk y => cases x; cases y; simp at e; simp [e])
  simpa using this

theorem bt_eq {a b : ByteArray} (h : a = b) : (a.toList == b.toList) = true := by subst h; simp

/-- a number between two -/
def inR (n a b : Int) : Bool := decide (a ≤ n) && decide (n ≤ b)

set_option maxHeartbeats 400000 in
theorem isIn_any (n a b : Int) (w : World) :
    Calls Tryz.prog 77 #[.int .i64 n, .int .i64 a, .int .i64 b] w fun e w' => e = .returned (.bool (inR n a b)) ∧ Below w.heap.size w w' := by
  by_cases h1 : a ≤ n
  · by_cases h2 : n ≤ b
    · have HC : Hid (inR n a b = true) := by show _ = _; simp [inR, h1, h2]
      go_enter Tryz.func77, Tryz.ntmps77
      go_wp2_with fail
      go_ret
      exact ⟨ret_bool HC.out.symm, by go_grown⟩
    · have HC : Hid (inR n a b = false) := by show _ = _; simp [inR, h2]
      go_enter Tryz.func77, Tryz.ntmps77
      go_wp2_with fail
      go_ret
      exact ⟨ret_bool HC.out.symm, by go_grown⟩
  · have HC : Hid (inR n a b = false) := by show _ = _; simp [inR, h1]
    go_enter Tryz.func77, Tryz.ntmps77
    go_wp2_with fail
    go_ret
    exact ⟨ret_bool HC.out.symm, by go_grown⟩

set_option maxHeartbeats 400000 in
theorem isSize_any (n : Int) (w : World) :
    Calls Tryz.prog 75 #[.int .i64 n] w fun e w' => e = .returned (.bool (inR n 0 1000)) ∧ Below w.heap.size w w' := by
  go_enter Tryz.func75, Tryz.ntmps75
  go_wp2_with fail
  refine (isIn_any _ _ _ _).mono ?_
  rintro e w1 ⟨rfl, hb⟩
  go_wp2_with fail
  go_ret
  exact ⟨rfl, hb⟩

/-- a name, or none -/
def nameOrNone (s : ByteArray) : Bool := decide (s.size = 0) || P.nameOk s

set_option maxHeartbeats 400000 in
theorem isNameOrNone_any (s : ByteArray) (w : World) (hs : s.size ≤ maxLen) :
    Calls Tryz.prog 90 #[.string s] w fun e w' => e = .returned (.bool (nameOrNone s)) ∧ Below w.heap.size w w' := by
  by_cases h : s = ⟨#[]⟩
  · have HC : Hid (nameOrNone s = true) := by show _ = _; subst h; rfl
    have hte : s.toList = [] := by subst h; simp
    clear h
    go_enter Tryz.func90, Tryz.ntmps90
    go_wp2_with fail
    go_ret
    exact ⟨ret_bool HC.out.symm, by go_grown⟩
  · have HC : Hid (nameOrNone s = P.nameOk s) := by
      show _ = _
      have : s.size ≠ 0 := fun e => h (ByteArray.ext (Array.eq_empty_of_size_eq_zero e))
      simp [nameOrNone, this]
    have hte : ¬ s.toList = [] := by
      rw [ByteArray.toList_eq]
      exact fun e => h (by cases s with | mk x => cases x; simp at e; simp [e])
    have HZ : Hid (s.size ≤ maxLen) := hs
    clear h hs
    go_enter Tryz.func90, Tryz.ntmps90
    go_wp2_with fail
    refine (isName_any _ _ HZ.out).mono ?_
    rintro e w1 ⟨rfl, rfl⟩
    go_wp2_with fail
    go_ret
    have hem : s.toList.isEmpty = false := by simpa using hte
    exact ⟨ret_bool (by rw [hem, Bool.false_or]; exact HC.out.symm), by go_grown⟩

/-- a like that may stand -/
def likeOk (l : Lik) : Bool := decide (codeOf l.select = 0) && inR l.weight (-9) 9

def likesOk (xs : List Lik) : Bool := decide (xs.length ≤ 5) && xs.all likeOk

set_option maxHeartbeats 1000000 in
set_option maxRecDepth 100000 in
theorem likesOk_any (xs : List Lik) (a : Option Addr) (cap lo : Nat) (w : World) (hin : SliceC LikC 2 lo w a xs) :
    Calls Tryz.prog 89 #[.slice a xs.length cap] w fun e w' => e = .returned (.bool (likesOk xs)) ∧ Below w.heap.size w w' := by
  have hlen := hin.1
  unfold maxLen at hlen
  have HI : Hid (SliceC LikC 2 lo w a xs) := hin
  clear hin
  by_cases h5 : xs.length ≤ 5
  · go_enter Tryz.func89, Tryz.ntmps89
    go_wp2_with fail
    go_loopw [10] (fun i wr => ∃ k : Nat, k ≤ xs.length ∧ i = .int .i64 k ∧ Hid (∀ j x, j < k → xs[j]? = some x → likeOk x = true) ∧ Below w.heap.size w wr) (fun i _ => xs.length - (intOf i).toNat)
    case atStart => exact ⟨0, Nat.zero_le _, rfl, fun j x h => absurd h (Nat.not_lt_zero _), by go_grown⟩
    case round =>
      obtain ⟨k, hk, rfl, ho, hbel⟩ := hrel
      by_cases hlt : k < xs.length
      · obtain ⟨x, hx⟩ : ∃ x, xs[k]? = some x := ⟨xs[k], List.getElem?_eq_getElem hlt⟩
        obtain ⟨b, o, rfl, _, _, hc⟩ := (HI.out.below LikC.holds hbel (Nat.le_refl _)).at hx
        obtain ⟨q0, q1, z0⟩ := hc
        simp only [Nat.add_zero] at q0 q1
        have HX : Hid (xs[k]? = some x) := hx
        have HZ : Hid (x.select.size ≤ maxLen) := z0
        have HB : Hid (Below w.heap.size w wr) := hbel
        have HSZ : Hid (w.heap.size ≤ wr.heap.size) := hbel.size
        clear hx z0 hbel
        go_upto_region 6 with fail
        have e0 : (wr.alloc (Obj.cells #[.string x.select, .int .i64 x.weight] 98)).cell? ⟨wr.heap.size, 0, none⟩ = some (.string x.select) := by simp
        have e1 : (wr.alloc (Obj.cells #[.string x.select, .int .i64 x.weight] 98)).cell? ⟨wr.heap.size, 1, none⟩ = some (.int .i64 x.weight) := by simp
        have HB4 : Hid (Below w.heap.size w (wr.alloc (Obj.cells #[.string x.select, .int .i64 x.weight] 98))) := HB.out.alloc HSZ.out _
        have hs4 : wr.heap.size < (wr.alloc (Obj.cells #[.string x.select, .int .i64 x.weight] 98)).heap.size := by simp
        clear HB HSZ q0 q1
        generalize wr.alloc (Obj.cells #[.string x.select, .int .i64 x.weight] 98) = w4 at *
        cases hr : decide (codeOf x.select = 0)
        · have HC : Hid (likesOk xs = false) := by
            show _ = _
            have hm := List.mem_of_getElem? HX.out
            have : likeOk x = false := by simp [likeOk, hr]
            have : xs.all likeOk = false := List.all_eq_false.mpr ⟨x, hm, by simp [this]⟩
            simp [likesOk, this]
          have HR : Hid (decide (codeOf x.select = 0) = false) := hr
          clear hr
          go_wp2_with fail
          refine (isRead_any _ _ HZ.out).mono ?_
          rintro e w5 ⟨rfl, hb5⟩
          rw [HR.out]
          have HB5 : Hid (Below w.heap.size w w5) := HB4.out.trans (hb5.mono HB4.out.size)
          clear hb5
          go_wp2_with fail
          go_ret
          exact ⟨ret_bool HC.out.symm, HB5.out⟩
        · have HR : Hid (decide (codeOf x.select = 0) = true) := hr
          go_wp2_with fail
          refine (isRead_any _ _ HZ.out).mono ?_
          rintro e w5 ⟨rfl, hb5⟩
          rw [HR.out]
          have e5 : w5.cell? ⟨wr.heap.size, 1, none⟩ = some (.int .i64 x.weight) := by rw [hb5.cell (p := ⟨wr.heap.size, 1, none⟩) hs4]; exact e1
          have HB5 : Hid (Below w.heap.size w w5) := HB4.out.trans (hb5.mono HB4.out.size)
          clear hb5 e0 e1 hs4 HB4
          go_wp2_with fail
          refine (isIn_any _ _ _ _).mono ?_
          rintro e w6 ⟨rfl, hb6⟩
          have HB6 : Hid (Below w.heap.size w w6) := HB5.out.trans (hb6.mono HB5.out.size)
          clear hb6 HB5 e5
          cases hi : inR x.weight (-9) 9
          · have HC : Hid (likesOk xs = false) := by
              show _ = _
              have hm := List.mem_of_getElem? HX.out
              have : likeOk x = false := by simp [likeOk, hi]
              have : xs.all likeOk = false := List.all_eq_false.mpr ⟨x, hm, by simp [this]⟩
              simp [likesOk, this]
            clear hi hr
            go_wp2_with fail
            go_ret
            exact ⟨ret_bool HC.out.symm, HB6.out⟩
          · have HO : Hid (∀ j y, j < k + 1 → xs[j]? = some y → likeOk y = true) := by
              intro j y hj hy
              by_cases e : j = k
              · subst e
                rw [HX.out] at hy
                cases hy
                simp only [likeOk, hi, HR.out, Bool.and_self]
              · exact ho.out j y (by omega) hy
            clear hi hr ho
            go_wp2_with fail
            go_roundw
            case rel => exact ⟨k + 1, by omega, by go_num, HO, HB6.out⟩
            case measure => simp [intOf]; omega
      · have hke : k = xs.length := by omega
        subst hke
        have HC : Hid (likesOk xs = true) := by
          show _ = _
          simp only [likesOk, h5, decide_true, Bool.true_and, List.all_eq_true]
          intro x hx
          obtain ⟨j, hj, e⟩ := List.mem_iff_getElem.mp hx
          exact ho.out j x hj (by rw [List.getElem?_eq_getElem hj, e])
        clear ho
        go_wp2_with fail
        go_ret
        exact ⟨ret_bool HC.out.symm, hbel⟩
  · have HC : Hid (likesOk xs = false) := by show _ = _; simp [likesOk, h5]
    go_enter Tryz.func89, Tryz.ntmps89
    go_wp2_with fail
    go_ret
    exact ⟨ret_bool HC.out.symm, by go_grown⟩

end Go.Proofs.YtbaafgjiblkckaaGreat

namespace Go.Proofs.YtbaafgjiblkckaaGreat
open Go.RowKit

/-- what can be asked of a copy alone -/
def copyOk (x : Cpy) : Bool :=
  inR x.rank 0 100 && inR x.born 0 1000000 && inR x.room 0 1000 && inR x.hold 0 1000 && decide (codeOf x.select = 0) && likesOk x.likes && inR x.apart 0 2 && nameOrNone x.near && nameOrNone x.fixed

theorem range_belowV {w w' : World} {g o B : Nat} {l : List Value} (h : w.rangeAt g o l) (hb : Below B w w') (hB : g < B) : w'.rangeAt g o l := by
  intro j v hj
  rw [hb.cell (p := ⟨g, _, none⟩) hB]
  exact h j v hj

set_option maxHeartbeats 1000000 in
set_option maxRecDepth 100000 in
theorem copyOk_any (x : Cpy) (a7 : Option Addr) (c7 lo : Nat) (w : World) (z6 : x.select.size ≤ maxLen) (hin : SliceC LikC 2 lo w a7 x.likes) (z9 : x.near.size ≤ maxLen) (z10 : x.fixed.size ≤ maxLen) :
    Calls Tryz.prog 78 #[.agg #[.string x.name, .string x.service, .int .i64 x.rank, .int .i64 x.born, .int .i64 x.room, .int .i64 x.hold, .string x.select, .slice a7 x.likes.length c7, .int .i64 x.apart, .string x.near, .string x.fixed, .string x.at_]] w fun e w' => e = .returned (.bool (copyOk x)) ∧ Below w.heap.size w w' := by
  have HI : Hid (SliceC LikC 2 lo w a7 x.likes) := hin
  have Z6 : Hid (x.select.size ≤ maxLen) := z6
  have Z9 : Hid (x.near.size ≤ maxLen) := z9
  have Z10 : Hid (x.fixed.size ≤ maxLen) := z10
  have hlen := hin.1
  unfold maxLen at hlen
  clear hin z6 z9 z10
  go_enter Tryz.func78, Tryz.ntmps78
  go_wp2_with fail
  have HR : Hid ((w.alloc (Obj.cells #[.string x.name, .string x.service, .int .i64 x.rank, .int .i64 x.born, .int .i64 x.room, .int .i64 x.hold, .string x.select, .slice a7 x.likes.length c7, .int .i64 x.apart, .string x.near, .string x.fixed, .string x.at_] 72)).rangeAt w.heap.size 0 [.string x.name, .string x.service, .int .i64 x.rank, .int .i64 x.born, .int .i64 x.room, .int .i64 x.hold, .string x.select, .slice a7 x.likes.length c7, .int .i64 x.apart, .string x.near, .string x.fixed, .string x.at_]) := range_cons (by simp) (range_cons (by simp) (range_cons (by simp) (range_cons (by simp) (range_cons (by simp) (range_cons (by simp) (range_cons (by simp) (range_cons (by simp) (range_cons (by simp) (range_cons (by simp) (range_cons (by simp) (range_cons (by simp) (range_nil _ _ _))))))))))))
  have HB : Hid (Below w.heap.size w (w.alloc (Obj.cells #[.string x.name, .string x.service, .int .i64 x.rank, .int .i64 x.born, .int .i64 x.room, .int .i64 x.hold, .string x.select, .slice a7 x.likes.length c7, .int .i64 x.apart, .string x.near, .string x.fixed, .string x.at_] 72))) := (Below.refl _ _).alloc (Nat.le_refl _) _
  have HS : Hid (w.heap.size < (w.alloc (Obj.cells #[.string x.name, .string x.service, .int .i64 x.rank, .int .i64 x.born, .int .i64 x.room, .int .i64 x.hold, .string x.select, .slice a7 x.likes.length c7, .int .i64 x.apart, .string x.near, .string x.fixed, .string x.at_] 72)).heap.size) := by show _ < _; simp
  generalize w.alloc (Obj.cells #[.string x.name, .string x.service, .int .i64 x.rank, .int .i64 x.born, .int .i64 x.room, .int .i64 x.hold, .string x.select, .slice a7 x.likes.length c7, .int .i64 x.apart, .string x.near, .string x.fixed, .string x.at_] 72) = w0 at *
  refine (isIn_any _ _ _ _).mono ?_
  rintro e w1 ⟨rfl, hb⟩
  have HR1 : Hid (w1.rangeAt w.heap.size 0 [.string x.name, .string x.service, .int .i64 x.rank, .int .i64 x.born, .int .i64 x.room, .int .i64 x.hold, .string x.select, .slice a7 x.likes.length c7, .int .i64 x.apart, .string x.near, .string x.fixed, .string x.at_]) := range_belowV HR.out hb HS.out
  have HB1 : Hid (Below w.heap.size w w1) := HB.out.trans (hb.mono HB.out.size)
  have HS1 : Hid (w.heap.size < w1.heap.size) := Nat.lt_of_lt_of_le HS.out hb.size
  clear HR HB HS hb
  have HR := HR1
  have HB := HB1
  have HS := HS1
  clear HR1 HB1 HS1
  cases h : inR x.rank 0 100
  · have HC : Hid (copyOk x = false) := by show _ = _; simp only [copyOk, h, Bool.false_and]
    clear h
    go_wp2_with fail
    go_ret
    exact ⟨ret_bool HC.out.symm, HB.out⟩
  have H1 : Hid ((inR x.rank 0 100) = true) := h
  clear h
  have e0 : w1.cell? ⟨w.heap.size, 3, none⟩ = some (.int .i64 x.born) := HR.out 3 _ rfl
  go_wp2_with fail
  clear e0
  refine (isIn_any _ _ _ _).mono ?_
  rintro e w2 ⟨rfl, hb⟩
  have HR2 : Hid (w2.rangeAt w.heap.size 0 [.string x.name, .string x.service, .int .i64 x.rank, .int .i64 x.born, .int .i64 x.room, .int .i64 x.hold, .string x.select, .slice a7 x.likes.length c7, .int .i64 x.apart, .string x.near, .string x.fixed, .string x.at_]) := range_belowV HR.out hb HS.out
  have HB2 : Hid (Below w.heap.size w w2) := HB.out.trans (hb.mono HB.out.size)
  have HS2 : Hid (w.heap.size < w2.heap.size) := Nat.lt_of_lt_of_le HS.out hb.size
  clear HR HB HS hb
  have HR := HR2
  have HB := HB2
  have HS := HS2
  clear HR2 HB2 HS2
  cases h : inR x.born 0 1000000
  · have HC : Hid (copyOk x = false) := by show _ = _; simp only [copyOk, h, Bool.and_false, Bool.false_and]
    clear h
    go_wp2_with fail
    go_ret
    exact ⟨ret_bool HC.out.symm, HB.out⟩
  have H2 : Hid ((inR x.born 0 1000000) = true) := h
  clear h
  have e0 : w2.cell? ⟨w.heap.size, 4, none⟩ = some (.int .i64 x.room) := HR.out 4 _ rfl
  go_wp2_with fail
  clear e0
  refine (isSize_any _ _).mono ?_
  rintro e w3 ⟨rfl, hb⟩
  have HR3 : Hid (w3.rangeAt w.heap.size 0 [.string x.name, .string x.service, .int .i64 x.rank, .int .i64 x.born, .int .i64 x.room, .int .i64 x.hold, .string x.select, .slice a7 x.likes.length c7, .int .i64 x.apart, .string x.near, .string x.fixed, .string x.at_]) := range_belowV HR.out hb HS.out
  have HB3 : Hid (Below w.heap.size w w3) := HB.out.trans (hb.mono HB.out.size)
  have HS3 : Hid (w.heap.size < w3.heap.size) := Nat.lt_of_lt_of_le HS.out hb.size
  clear HR HB HS hb
  have HR := HR3
  have HB := HB3
  have HS := HS3
  clear HR3 HB3 HS3
  cases h : inR x.room 0 1000
  · have HC : Hid (copyOk x = false) := by show _ = _; simp only [copyOk, h, Bool.and_false, Bool.false_and]
    clear h
    go_wp2_with fail
    go_ret
    exact ⟨ret_bool HC.out.symm, HB.out⟩
  have H3 : Hid ((inR x.room 0 1000) = true) := h
  clear h
  have e0 : w3.cell? ⟨w.heap.size, 5, none⟩ = some (.int .i64 x.hold) := HR.out 5 _ rfl
  go_wp2_with fail
  clear e0
  refine (isSize_any _ _).mono ?_
  rintro e w4 ⟨rfl, hb⟩
  have HR4 : Hid (w4.rangeAt w.heap.size 0 [.string x.name, .string x.service, .int .i64 x.rank, .int .i64 x.born, .int .i64 x.room, .int .i64 x.hold, .string x.select, .slice a7 x.likes.length c7, .int .i64 x.apart, .string x.near, .string x.fixed, .string x.at_]) := range_belowV HR.out hb HS.out
  have HB4 : Hid (Below w.heap.size w w4) := HB.out.trans (hb.mono HB.out.size)
  have HS4 : Hid (w.heap.size < w4.heap.size) := Nat.lt_of_lt_of_le HS.out hb.size
  clear HR HB HS hb
  have HR := HR4
  have HB := HB4
  have HS := HS4
  clear HR4 HB4 HS4
  cases h : inR x.hold 0 1000
  · have HC : Hid (copyOk x = false) := by show _ = _; simp only [copyOk, h, Bool.and_false, Bool.false_and]
    clear h
    go_wp2_with fail
    go_ret
    exact ⟨ret_bool HC.out.symm, HB.out⟩
  have H4 : Hid ((inR x.hold 0 1000) = true) := h
  clear h
  have e0 : w4.cell? ⟨w.heap.size, 6, none⟩ = some (.string x.select) := HR.out 6 _ rfl
  go_wp2_with fail
  clear e0
  refine (isRead_any _ _ Z6.out).mono ?_
  rintro e w5 ⟨rfl, hb⟩
  have HR5 : Hid (w5.rangeAt w.heap.size 0 [.string x.name, .string x.service, .int .i64 x.rank, .int .i64 x.born, .int .i64 x.room, .int .i64 x.hold, .string x.select, .slice a7 x.likes.length c7, .int .i64 x.apart, .string x.near, .string x.fixed, .string x.at_]) := range_belowV HR.out hb HS.out
  have HB5 : Hid (Below w.heap.size w w5) := HB.out.trans (hb.mono HB.out.size)
  have HS5 : Hid (w.heap.size < w5.heap.size) := Nat.lt_of_lt_of_le HS.out hb.size
  clear HR HB HS hb
  have HR := HR5
  have HB := HB5
  have HS := HS5
  clear HR5 HB5 HS5
  cases h : decide (codeOf x.select = 0)
  · have HC : Hid (copyOk x = false) := by show _ = _; simp only [copyOk, h, Bool.and_false, Bool.false_and]
    clear h
    go_wp2_with fail
    go_ret
    exact ⟨ret_bool HC.out.symm, HB.out⟩
  have H5 : Hid ((decide (codeOf x.select = 0)) = true) := h
  clear h
  have e0 : w5.cell? ⟨w.heap.size, 7, none⟩ = some (.slice a7 x.likes.length c7) := HR.out 7 _ rfl
  go_wp2_with fail
  clear e0
  refine (likesOk_any x.likes a7 c7 lo _ (HI.out.below LikC.holds HB.out (Nat.le_refl _))).mono ?_
  rintro e w6 ⟨rfl, hb⟩
  have HR6 : Hid (w6.rangeAt w.heap.size 0 [.string x.name, .string x.service, .int .i64 x.rank, .int .i64 x.born, .int .i64 x.room, .int .i64 x.hold, .string x.select, .slice a7 x.likes.length c7, .int .i64 x.apart, .string x.near, .string x.fixed, .string x.at_]) := range_belowV HR.out hb HS.out
  have HB6 : Hid (Below w.heap.size w w6) := HB.out.trans (hb.mono HB.out.size)
  have HS6 : Hid (w.heap.size < w6.heap.size) := Nat.lt_of_lt_of_le HS.out hb.size
  clear HR HB HS hb
  have HR := HR6
  have HB := HB6
  have HS := HS6
  clear HR6 HB6 HS6
  cases h : likesOk x.likes
  · have HC : Hid (copyOk x = false) := by show _ = _; simp only [copyOk, h, Bool.and_false, Bool.false_and]
    clear h
    go_wp2_with fail
    go_ret
    exact ⟨ret_bool HC.out.symm, HB.out⟩
  have H6 : Hid ((likesOk x.likes) = true) := h
  clear h
  have e0 : w6.cell? ⟨w.heap.size, 8, none⟩ = some (.int .i64 x.apart) := HR.out 8 _ rfl
  go_wp2_with fail
  clear e0
  refine (isIn_any _ _ _ _).mono ?_
  rintro e w7 ⟨rfl, hb⟩
  have HR7 : Hid (w7.rangeAt w.heap.size 0 [.string x.name, .string x.service, .int .i64 x.rank, .int .i64 x.born, .int .i64 x.room, .int .i64 x.hold, .string x.select, .slice a7 x.likes.length c7, .int .i64 x.apart, .string x.near, .string x.fixed, .string x.at_]) := range_belowV HR.out hb HS.out
  have HB7 : Hid (Below w.heap.size w w7) := HB.out.trans (hb.mono HB.out.size)
  have HS7 : Hid (w.heap.size < w7.heap.size) := Nat.lt_of_lt_of_le HS.out hb.size
  clear HR HB HS hb
  have HR := HR7
  have HB := HB7
  have HS := HS7
  clear HR7 HB7 HS7
  cases h : inR x.apart 0 2
  · have HC : Hid (copyOk x = false) := by show _ = _; simp only [copyOk, h, Bool.and_false, Bool.false_and]
    clear h
    go_wp2_with fail
    go_ret
    exact ⟨ret_bool HC.out.symm, HB.out⟩
  have H7 : Hid ((inR x.apart 0 2) = true) := h
  clear h
  have e0 : w7.cell? ⟨w.heap.size, 9, none⟩ = some (.string x.near) := HR.out 9 _ rfl
  go_wp2_with fail
  clear e0
  refine (isNameOrNone_any _ _ Z9.out).mono ?_
  rintro e w8 ⟨rfl, hb⟩
  have HR8 : Hid (w8.rangeAt w.heap.size 0 [.string x.name, .string x.service, .int .i64 x.rank, .int .i64 x.born, .int .i64 x.room, .int .i64 x.hold, .string x.select, .slice a7 x.likes.length c7, .int .i64 x.apart, .string x.near, .string x.fixed, .string x.at_]) := range_belowV HR.out hb HS.out
  have HB8 : Hid (Below w.heap.size w w8) := HB.out.trans (hb.mono HB.out.size)
  have HS8 : Hid (w.heap.size < w8.heap.size) := Nat.lt_of_lt_of_le HS.out hb.size
  clear HR HB HS hb
  have HR := HR8
  have HB := HB8
  have HS := HS8
  clear HR8 HB8 HS8
  cases h : nameOrNone x.near
  · have HC : Hid (copyOk x = false) := by show _ = _; simp only [copyOk, h, Bool.and_false, Bool.false_and]
    clear h
    go_wp2_with fail
    go_ret
    exact ⟨ret_bool HC.out.symm, HB.out⟩
  have H8 : Hid ((nameOrNone x.near) = true) := h
  clear h
  have e0 : w8.cell? ⟨w.heap.size, 10, none⟩ = some (.string x.fixed) := HR.out 10 _ rfl
  go_wp2_with fail
  clear e0
  refine (isNameOrNone_any _ _ Z10.out).mono ?_
  rintro e w9 ⟨rfl, hb⟩
  have HR9 : Hid (w9.rangeAt w.heap.size 0 [.string x.name, .string x.service, .int .i64 x.rank, .int .i64 x.born, .int .i64 x.room, .int .i64 x.hold, .string x.select, .slice a7 x.likes.length c7, .int .i64 x.apart, .string x.near, .string x.fixed, .string x.at_]) := range_belowV HR.out hb HS.out
  have HB9 : Hid (Below w.heap.size w w9) := HB.out.trans (hb.mono HB.out.size)
  have HS9 : Hid (w.heap.size < w9.heap.size) := Nat.lt_of_lt_of_le HS.out hb.size
  clear HR HB HS hb
  have HR := HR9
  have HB := HB9
  have HS := HS9
  clear HR9 HB9 HS9
  cases h : nameOrNone x.fixed
  · have HC : Hid (copyOk x = false) := by show _ = _; simp only [copyOk, h, Bool.and_false]
    clear h
    go_wp2_with fail
    go_ret
    exact ⟨ret_bool HC.out.symm, HB.out⟩
  have H9 : Hid ((nameOrNone x.fixed) = true) := h
  clear h
  have HC : Hid (copyOk x = true) := by show _ = _; simp only [copyOk, H1.out, H2.out, H3.out, H4.out, H5.out, H6.out, H7.out, H8.out, H9.out, Bool.and_self]
  go_wp2_with fail
  go_ret
  exact ⟨ret_bool HC.out.symm, HB.out⟩

end Go.Proofs.YtbaafgjiblkckaaGreat
