/-
  Walks: a copy looked at alone by the program.
-/
import Derived.Test.YtadfgenhjjkfdaaGreatRdp
import Derived.Test.YtadfgenhjjkfdaaGreatLik
namespace Go.Proofs.YtadfgenhjjkfdaaGreat
open Go.RowKit

theorem bt_ne {a b : ByteArray} (h : ¬ a = b) : (a.toList == b.toList) = false := by
  rw [ByteArray.toList_eq, ByteArray.toList_eq]
  have : ¬ a.data.toList = b.data.toList := fun e => h (by
    cases a with | mk x => cases b with | mk y => cases x; cases y; simp at e; simp [e])
  simpa using this

theorem bt_eq {a b : ByteArray} (h : a = b) : (a.toList == b.toList) = true := by subst h; simp

/-- a number between two -/
def inR (n a b : Int) : Bool := decide (a ≤ n) && decide (n ≤ b)

set_option maxHeartbeats 400000 in
theorem isIn_any (n a b : Int) (w : World) :
    Calls Tryz.prog 72 #[.int .i64 n, .int .i64 a, .int .i64 b] w fun e w' => e = .returned (.bool (inR n a b)) ∧ Below w.heap.size w w' := by
  by_cases h1 : a ≤ n
  · by_cases h2 : n ≤ b
    · have HC : Hid (inR n a b = true) := by show _ = _; simp [inR, h1, h2]
      go_enter Tryz.func72, Tryz.ntmps72
      go_wp2_with fail
      go_ret
      exact ⟨ret_bool HC.out.symm, by go_grown⟩
    · have HC : Hid (inR n a b = false) := by show _ = _; simp [inR, h2]
      go_enter Tryz.func72, Tryz.ntmps72
      go_wp2_with fail
      go_ret
      exact ⟨ret_bool HC.out.symm, by go_grown⟩
  · have HC : Hid (inR n a b = false) := by show _ = _; simp [inR, h1]
    go_enter Tryz.func72, Tryz.ntmps72
    go_wp2_with fail
    go_ret
    exact ⟨ret_bool HC.out.symm, by go_grown⟩

set_option maxHeartbeats 400000 in
theorem isSize_any (n : Int) (w : World) :
    Calls Tryz.prog 70 #[.int .i64 n] w fun e w' => e = .returned (.bool (inR n 0 1000)) ∧ Below w.heap.size w w' := by
  go_enter Tryz.func70, Tryz.ntmps70
  go_wp2_with fail
  refine (isIn_any _ _ _ _).mono ?_
  rintro e w1 ⟨rfl, hb⟩
  go_wp2_with fail
  go_ret
  exact ⟨rfl, hb⟩

/-- a name, or none -/
def nameOrNone (s : ByteArray) : Bool := decide (s.size = 0) || P.nameOk s

set_option maxHeartbeats 400000 in
theorem isNameOrNone_any (s : ByteArray) (w : World) (hs : s.size ≤ maxLen) :
    Calls Tryz.prog 88 #[.string s] w fun e w' => e = .returned (.bool (nameOrNone s)) ∧ Below w.heap.size w w' := by
  by_cases h : s = ⟨#[]⟩
  · have HC : Hid (nameOrNone s = true) := by show _ = _; subst h; rfl
    have hte : s.toList = [] := by subst h; simp
    clear h
    go_enter Tryz.func88, Tryz.ntmps88
    go_wp2_with fail
    go_ret
    exact ⟨ret_bool HC.out.symm, by go_grown⟩
  · have HC : Hid (nameOrNone s = P.nameOk s) := by
      show _ = _
      have : s.size ≠ 0 := fun e => h (ByteArray.ext (Array.eq_empty_of_size_eq_zero e))
      simp [nameOrNone, this]
    have hte : ¬ s.toList = [] := by
      rw [ByteArray.toList_eq]
      exact fun e => h (by cases s with | mk x => cases x; simp at e; simp [e])
    have HZ : Hid (s.size ≤ maxLen) := hs
    clear h hs
    go_enter Tryz.func88, Tryz.ntmps88
    go_wp2_with fail
    refine (isName_any _ _ HZ.out).mono ?_
    rintro e w1 ⟨rfl, rfl⟩
    go_wp2_with fail
    go_ret
    have hem : s.toList.isEmpty = false := by simpa using hte
    exact ⟨ret_bool (by rw [hem, Bool.false_or]; exact HC.out.symm), by go_grown⟩

/-- a like that may stand -/
def likeOk (l : Lik) : Bool := decide (codeOf l.select = 0) && inR l.weight (-9) 9

def likesOk (xs : List Lik) : Bool := decide (xs.length ≤ 5) && xs.all likeOk

set_option maxHeartbeats 1000000 in
set_option maxRecDepth 100000 in
theorem likesOk_any (xs : List Lik) (a : Option Addr) (cap lo : Nat) (w : World) (hin : SliceC LikC 2 lo w a xs) :
    Calls Tryz.prog 87 #[.slice a xs.length cap] w fun e w' => e = .returned (.bool (likesOk xs)) ∧ Below w.heap.size w w' := by
  have hlen := hin.1
  unfold maxLen at hlen
  have HI : Hid (SliceC LikC 2 lo w a xs) := hin
  clear hin
  by_cases h5 : xs.length ≤ 5
  · go_enter Tryz.func87, Tryz.ntmps87
    go_wp2_with fail
    go_loopw [10] (fun i wr => ∃ k : Nat, k ≤ xs.length ∧ i = .int .i64 k ∧ Hid (∀ j x, j < k → xs[j]? = some x → likeOk x = true) ∧ Below w.heap.size w wr) (fun i _ => xs.length - (intOf i).toNat)
    case atStart => exact ⟨0, Nat.zero_le _, rfl, fun j x h => absurd h (Nat.not_lt_zero _), by go_grown⟩
    case round =>
      obtain ⟨k, hk, rfl, ho, hbel⟩ := hrel
      by_cases hlt : k < xs.length
      · obtain ⟨x, hx⟩ : ∃ x, xs[k]? = some x := ⟨xs[k], List.getElem?_eq_getElem hlt⟩
        obtain ⟨b, o, rfl, _, _, hc⟩ := (HI.out.below LikC.holds hbel (Nat.le_refl _)).at hx
        obtain ⟨q0, q1, z0⟩ := hc
        simp only [Nat.add_zero] at q0 q1
        have HX : Hid (xs[k]? = some x) := hx
        have HZ : Hid (x.select.size ≤ maxLen) := z0
        have HB : Hid (Below w.heap.size w wr) := hbel
        have HSZ : Hid (w.heap.size ≤ wr.heap.size) := hbel.size
        clear hx z0 hbel
        go_upto_region 6 with fail
        have e0 : (wr.alloc (Obj.cells #[.string x.select, .int .i64 x.weight] 74)).cell? ⟨wr.heap.size, 0, none⟩ = some (.string x.select) := by simp
        have e1 : (wr.alloc (Obj.cells #[.string x.select, .int .i64 x.weight] 74)).cell? ⟨wr.heap.size, 1, none⟩ = some (.int .i64 x.weight) := by simp
        have HB4 : Hid (Below w.heap.size w (wr.alloc (Obj.cells #[.string x.select, .int .i64 x.weight] 74))) := HB.out.alloc HSZ.out _
        have hs4 : wr.heap.size < (wr.alloc (Obj.cells #[.string x.select, .int .i64 x.weight] 74)).heap.size := by simp
        clear HB HSZ q0 q1
        generalize wr.alloc (Obj.cells #[.string x.select, .int .i64 x.weight] 74) = w4 at *
        cases hr : decide (codeOf x.select = 0)
        · have HC : Hid (likesOk xs = false) := by
            show _ = _
            have hm := List.mem_of_getElem? HX.out
            have : likeOk x = false := by simp [likeOk, hr]
            have : xs.all likeOk = false := List.all_eq_false.mpr ⟨x, hm, by simp [this]⟩
            simp [likesOk, this]
          have HR : Hid (decide (codeOf x.select = 0) = false) := hr
          clear hr
          go_wp2_with fail
          refine (isRead_any _ _ HZ.out).mono ?_
          rintro e w5 ⟨rfl, hb5⟩
          rw [HR.out]
          have HB5 : Hid (Below w.heap.size w w5) := HB4.out.trans (hb5.mono HB4.out.size)
          clear hb5
          go_wp2_with fail
          go_ret
          exact ⟨ret_bool HC.out.symm, HB5.out⟩
        · have HR : Hid (decide (codeOf x.select = 0) = true) := hr
          go_wp2_with fail
          refine (isRead_any _ _ HZ.out).mono ?_
          rintro e w5 ⟨rfl, hb5⟩
          rw [HR.out]
          have e5 : w5.cell? ⟨wr.heap.size, 1, none⟩ = some (.int .i64 x.weight) := by rw [hb5.cell (p := ⟨wr.heap.size, 1, none⟩) hs4]; exact e1
          have HB5 : Hid (Below w.heap.size w w5) := HB4.out.trans (hb5.mono HB4.out.size)
          clear hb5 e0 e1 hs4 HB4
          go_wp2_with fail
          refine (isIn_any _ _ _ _).mono ?_
          rintro e w6 ⟨rfl, hb6⟩
          have HB6 : Hid (Below w.heap.size w w6) := HB5.out.trans (hb6.mono HB5.out.size)
          clear hb6 HB5 e5
          cases hi : inR x.weight (-9) 9
          · have HC : Hid (likesOk xs = false) := by
              show _ = _
              have hm := List.mem_of_getElem? HX.out
              have : likeOk x = false := by simp [likeOk, hi]
              have : xs.all likeOk = false := List.all_eq_false.mpr ⟨x, hm, by simp [this]⟩
              simp [likesOk, this]
            clear hi hr
            go_wp2_with fail
            go_ret
            exact ⟨ret_bool HC.out.symm, HB6.out⟩
          · have HO : Hid (∀ j y, j < k + 1 → xs[j]? = some y → likeOk y = true) := by
              intro j y hj hy
              by_cases e : j = k
              · subst e
                rw [HX.out] at hy
                cases hy
                simp only [likeOk, hi, HR.out, Bool.and_self]
              · exact ho.out j y (by omega) hy
            clear hi hr ho
            go_wp2_with fail
            go_roundw
            case rel => exact ⟨k + 1, by omega, by go_num, HO, HB6.out⟩
            case measure => simp [intOf]; omega
      · have hke : k = xs.length := by omega
        subst hke
        have HC : Hid (likesOk xs = true) := by
          show _ = _
          simp only [likesOk, h5, decide_true, Bool.true_and, List.all_eq_true]
          intro x hx
          obtain ⟨j, hj, e⟩ := List.mem_iff_getElem.mp hx
          exact ho.out j x hj (by rw [List.getElem?_eq_getElem hj, e])
        clear ho
        go_wp2_with fail
        go_ret
        exact ⟨ret_bool HC.out.symm, hbel⟩
  · have HC : Hid (likesOk xs = false) := by show _ = _; simp [likesOk, h5]
    go_enter Tryz.func87, Tryz.ntmps87
    go_wp2_with fail
    go_ret
    exact ⟨ret_bool HC.out.symm, by go_grown⟩

end Go.Proofs.YtadfgenhjjkfdaaGreat
