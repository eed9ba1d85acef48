import Derived.Test.YtihnjndnkgnmaaaGreatTkw
import Derived.Test.YtihnjndnkgnmaaaGreatTk0
import Derived.Test.YtihnjndnkgnmaaaGreatShp
import Derived.Lib.Bytealg
import Derived.Laws.Externs
namespace Go.Proofs.YtihnjndnkgnmaaaGreat
open Go.RowKit

section
variable {P : Program} {ops : Array Oper} {Q : Exit → Act → World → Prop} {md : Region.Mode} {S : World → Prop} {n : Nat} {l : Array Bool} {a : Act} {w : World} {op : Op} {ty : TypeId} {pos : String} {af : Array Edge} {g : Option (Nat × Bool)}

theorem x0 (i : Nat) (d : Tmp) (v : Value) (hi : ops[i]? = some ⟨some d, op, ty, pos, af, g⟩) (hS : S w) (h : wpAnyH P md ops Q S n (l.setIfInBounds i true) (a.put (some d) v) w) (hw : Region.wanted ⟨some d, op, ty, pos, af, g⟩ (yielded ops a.tmps) = true := by rfl)
  (hy : ∀ w, S w → (execOp a.eval ⟨some d, op, ty, pos, af, g⟩).run P w = .ok (.value v) w := by intro wy hy; obtain ⟨y0, y3, yx⟩ := hy; go_simp) (hs : Region.noSelect ops = true := by kernel_rfl) (hf : Region.free md ops l i = true := by kernel_rfl) (hr : (Region.ready md ops l).contains i = true := by kernel_rfl)
  (hQ : ∀ c a w, Q (.panic c) (a.put (some d) v) w → Q (.panic c) a w := by first | exact fun _ _ _ h => h | (intro _ _ _ h; cases h.1)) : wpAnyH P md ops Q S (n + 1) l a w := wpAnyH_take hi hs hf hr hQ (Or.inl ⟨hw, hy⟩) hS h

theorem x1 (i : Nat) (d : Tmp) (v : Value) (hi : ops[i]? = some ⟨some d, op, ty, pos, af, g⟩) (hS : S w) (h : wpAnyH P md ops Q S n (l.setIfInBounds i true) (a.put (some d) v) w) (hw : Region.wanted ⟨some d, op, ty, pos, af, g⟩ (yielded ops a.tmps) = true := by rfl)
  (hy : ∀ w, S w → (execOp a.eval ⟨some d, op, ty, pos, af, g⟩).run P w = .ok (.value v) w := by intro wy hy; obtain ⟨y0, y1, y2⟩ := hy; go_simp <;> omega) (hs : Region.noSelect ops = true := by kernel_rfl) (hf : Region.free md ops l i = true := by kernel_rfl) (hr : (Region.ready md ops l).contains i = true := by kernel_rfl)
  (hQ : ∀ c a w, Q (.panic c) (a.put (some d) v) w → Q (.panic c) a w := by first | exact fun _ _ _ h => h | (intro _ _ _ h; cases h.1)) : wpAnyH P md ops Q S (n + 1) l a w := wpAnyH_take hi hs hf hr hQ (Or.inl ⟨hw, hy⟩) hS h

theorem x2 (i : Nat) (d : Tmp) (v : Value) (hi : ops[i]? = some ⟨some d, op, ty, pos, af, g⟩) (hS : S w) (h : wpAnyH P md ops Q S n (l.setIfInBounds i true) (a.put (some d) v) w) (hw : Region.wanted ⟨some d, op, ty, pos, af, g⟩ (yielded ops a.tmps) = true := by rfl)
  (hy : ∀ w, S w → (execOp a.eval ⟨some d, op, ty, pos, af, g⟩).run P w = .ok (.value v) w := by intro wy hy; obtain ⟨y0, y1, y2, y3⟩ := hy; go_simp) (hs : Region.noSelect ops = true := by kernel_rfl) (hf : Region.free md ops l i = true := by kernel_rfl) (hr : (Region.ready md ops l).contains i = true := by kernel_rfl)
  (hQ : ∀ c a w, Q (.panic c) (a.put (some d) v) w → Q (.panic c) a w := by first | exact fun _ _ _ h => h | (intro _ _ _ h; cases h.1)) : wpAnyH P md ops Q S (n + 1) l a w := wpAnyH_take hi hs hf hr hQ (Or.inl ⟨hw, hy⟩) hS h

theorem x3 (i : Nat) (d : Tmp) (v : Value) (hi : ops[i]? = some ⟨some d, op, ty, pos, af, g⟩) (hS : S w) (h : wpAnyH P md ops Q S n (l.setIfInBounds i true) (a.put (some d) v) w) (hw : Region.wanted ⟨some d, op, ty, pos, af, g⟩ (yielded ops a.tmps) = true := by rfl)
  (hy : ∀ w, S w → (execOp a.eval ⟨some d, op, ty, pos, af, g⟩).run P w = .ok (.value v) w := by intro wy hy; clear hy; (go_simp; try omega)) (hs : Region.noSelect ops = true := by kernel_rfl) (hf : Region.free md ops l i = true := by kernel_rfl) (hr : (Region.ready md ops l).contains i = true := by kernel_rfl)
  (hQ : ∀ c a w, Q (.panic c) (a.put (some d) v) w → Q (.panic c) a w := by first | exact fun _ _ _ h => h | (intro _ _ _ h; cases h.1)) : wpAnyH P md ops Q S (n + 1) l a w := wpAnyH_take hi hs hf hr hQ (Or.inl ⟨hw, hy⟩) hS h

theorem td {fuel : Nat} (h : Q .normal a w) (hr : Region.ready md ops l = [] := by kernel_rfl) : wpAnyH P md ops Q S fuel l a w := wpAnyH_done hr h fuel

end

end Go.Proofs.YtihnjndnkgnmaaaGreat

namespace Go.Proofs.YtihnjndnkgnmaaaGreat
open Go.RowKit

def ltN (a b : ByteArray) : Bool := Op.bytesLess a.toList b.toList
def restN {α : Type} (nm : α → ByteArray) (s : ByteArray) : List α → List α
 | [] => []
 | y :: r => if nm y = s then r else y :: r
def putN {α : Type} (nm : α → ByteArray) (xs : List α) (a : α) : List α := xs.takeWhile (fun x => ltN (nm x) (nm a)) ++ a :: restN nm (nm a) (xs.dropWhile (fun x => ltN (nm x) (nm a)))

theorem takeN_at {α : Type} {p : α → Bool} : ∀ {xs : List α} {k : Nat}, (∀ x ∈ xs.take k, p x = true) → (∀ y, xs[k]? = some y → p y = false) → xs.takeWhile p = xs.take k ∧ xs.dropWhile p = xs.drop k
 | [], k, _, _ => by simp
 | x :: s, 0, _, h2 => by
  have := h2 x rfl
  simp [this]
 | x :: s, k + 1, h1, h2 => by
  have hx : p x = true := h1 x (by simp)
  obtain ⟨e1, e2⟩ := takeN_at (p := p) (xs := s) (k := k) (fun y hy => h1 y (by rw [List.take_succ_cons]; exact List.mem_cons_of_mem _ hy)) (fun y hy => h2 y (by simpa using hy))
  rw [List.takeWhile_cons, List.dropWhile_cons, if_pos hx, if_pos hx, e1, e2]
  exact ⟨rfl, rfl⟩
theorem putN_end {α : Type} {nm : α → ByteArray} {xs : List α} {a : α} (h1 : ∀ x ∈ xs.take xs.length, ltN (nm x) (nm a) = true) : putN nm xs a = xs.take xs.length ++ a :: [] := by
 obtain ⟨e1, e2⟩ := takeN_at (p := fun x => ltN (nm x) (nm a)) h1 (fun y hy => by simp at hy)
 unfold putN
 rw [e1, e2, List.drop_length]
 rfl
theorem putN_over {α : Type} {nm : α → ByteArray} {xs : List α} {a y : α} {k : Nat} (h1 : ∀ x ∈ xs.take k, ltN (nm x) (nm a) = true) (hy : xs[k]? = some y) (hn : ltN (nm y) (nm a) = false) (he : nm y = nm a) : putN nm xs a = xs.take k ++ a :: xs.drop (k + 1) := by
 have hl := lt_of_some hy
 have hg : xs[k] = y := by rw [List.getElem?_eq_getElem hl] at hy; exact Option.some.inj hy
 obtain ⟨e1, e2⟩ := takeN_at (p := fun x => ltN (nm x) (nm a)) h1 (fun z hz => by rw [hy] at hz; cases hz; exact hn)
 unfold putN
 rw [e1, e2, List.drop_eq_getElem_cons hl, hg]
 rw [show restN nm (nm a) (y :: xs.drop (k + 1)) = xs.drop (k + 1) from if_pos he]
theorem putN_new {α : Type} {nm : α → ByteArray} {xs : List α} {a y : α} {k : Nat} (h1 : ∀ x ∈ xs.take k, ltN (nm x) (nm a) = true) (hy : xs[k]? = some y) (hn : ltN (nm y) (nm a) = false) (he : nm y ≠ nm a) : putN nm xs a = xs.take k ++ a :: xs.drop k := by
 have hl := lt_of_some hy
 have hg : xs[k] = y := by rw [List.getElem?_eq_getElem hl] at hy; exact Option.some.inj hy
 obtain ⟨e1, e2⟩ := takeN_at (p := fun x => ltN (nm x) (nm a)) h1 (fun z hz => by rw [hy] at hz; cases hz; exact hn)
 unfold putN
 rw [e1, e2, List.drop_eq_getElem_cons hl, hg]
 rw [show restN nm (nm a) (y :: xs.drop (k + 1)) = y :: xs.drop (k + 1) from if_neg he]
theorem restN_sub {α : Type} (nm : α → ByteArray) (s : ByteArray) (xs : List α) : (restN nm s xs).Sublist xs := by
 cases xs with
 | nil => exact List.Sublist.refl _
 | cons y r =>
  by_cases he : nm y = s
  ·rw [show restN nm s (y :: r) = r from if_pos he]
   exact List.sublist_cons_self _ _
  ·rw [show restN nm s (y :: r) = y :: r from if_neg he]
   exact List.Sublist.refl _
theorem putN_mem {α : Type} {nm : α → ByteArray} {xs : List α} {a x : α} (h : x ∈ putN nm xs a) : x = a ∨ x ∈ xs := by
 unfold putN at h
 rcases List.mem_append.1 h with h | h
 ·exact .inr ((List.takeWhile_sublist _).subset h)
 ·rcases List.mem_cons.1 h with h | h
  ·exact .inl h
  ·exact .inr (((restN_sub nm _ _).trans (List.dropWhile_sublist _)).subset h)
theorem putN_len {α : Type} (nm : α → ByteArray) (xs : List α) (a : α) : (putN nm xs a).length ≤ xs.length + 1 := by
 unfold putN
 have h1 := (restN_sub nm (nm a) (xs.dropWhile (fun x => ltN (nm x) (nm a)))).length_le
 have h2 := congrArg List.length (List.takeWhile_append_dropWhile (p := fun x => ltN (nm x) (nm a)) (l := xs))
 rw [List.length_append] at h2
 rw [List.length_append, List.length_cons]
 omega

end Go.Proofs.YtihnjndnkgnmaaaGreat

namespace Go.Proofs.YtihnjndnkgnmaaaGreat
open Go.RowKit

set_option maxHeartbeats 1000000 in
set_option maxRecDepth 100000 in
theorem cmpString_any (a b : ByteArray) (w : World) :
  Calls Tryz.prog 153 #[.string a, .string b] w fun e w' => e = .returned (.int .i64 (Lib.compareBytes a.data.toList b.data.toList)) ∧ w' = w := by
 go_enter Tryz.func153, Tryz.ntmps153
 go_wp2
 rw [run_callFunc_extern Tryz.func162 (by kernel_rfl) (by kernel_rfl) (by kernel_rfl) (e := Extern.BytealgCompare.compare) (by kernel_rfl), Lib.run_compareString]
 simp only [Result.andThen]
 rw [Oper.upon_value]
 go_wp2
 go_ret
 exact ⟨rfl, rfl⟩

theorem strCmp_any (a b : ByteArray) (w : World) :
  Calls Tryz.prog 139 #[.string a, .string b] w fun e w' => e = .returned (.int .i64 (Lib.compareBytes a.data.toList b.data.toList)) ∧ w' = w := by
 go_enter Tryz.func139, Tryz.ntmps139
 go_wp2_with (go_at_call 153; refine (cmpString_any _ _ _).mono ?_; rintro e w' ⟨rfl, rfl⟩)
 go_ret
 exact ⟨rfl, rfl⟩

theorem cmpL_cases : ∀ (a b : List UInt8), (Lib.compareBytes a b = -1 ∧ Op.bytesLess a b = true ∧ Op.bytesLess b a = false ∧ a ≠ b) ∨ (Lib.compareBytes a b = 0 ∧ Op.bytesLess a b = false ∧ Op.bytesLess b a = false ∧ a = b) ∨ (Lib.compareBytes a b = 1 ∧ Op.bytesLess a b = false ∧ Op.bytesLess b a = true ∧ a ≠ b)
 | [], [] => .inr (.inl ⟨rfl, rfl, rfl, rfl⟩)
 | [], _ :: _ => .inl ⟨rfl, rfl, rfl, by simp⟩
 | _ :: _, [] => .inr (.inr ⟨rfl, rfl, rfl, by simp⟩)
 | x :: a, y :: b => by
  by_cases h1 : x < y
  ·have h2 : ¬ y < x := fun h => UInt8.lt_asymm h1 h
   have h3 : ¬ x = y := fun e => by subst e; exact UInt8.lt_irrefl _ h1
   have h4 : ¬ y = x := fun e => h3 e.symm
   exact .inl ⟨by simp [Lib.compareBytes, h1], by simp [Op.bytesLess, h1], by simp [Op.bytesLess, h2, h4], by simp [h3]⟩
  ·by_cases h2 : y < x
   ·have h3 : ¬ x = y := fun e => by subst e; exact UInt8.lt_irrefl _ h2
    have h4 : ¬ y = x := fun e => h3 e.symm
    exact .inr (.inr ⟨by simp [Lib.compareBytes, h1, h2], by simp [Op.bytesLess, h1, h3], by simp [Op.bytesLess, h2], by simp [h3]⟩)
   ·have h3 : x = y := UInt8.le_antisymm (UInt8.not_lt.1 h2) (UInt8.not_lt.1 h1)
    subst h3
    have hi := UInt8.lt_irrefl x
    rcases cmpL_cases a b with ⟨e1, e2, e3, e4⟩ | ⟨e1, e2, e3, e4⟩ | ⟨e1, e2, e3, e4⟩
    ·exact .inl ⟨by simp [Lib.compareBytes, e1], by simp [Op.bytesLess, e2], by simp [Op.bytesLess, e3], by simp [e4]⟩
    ·exact .inr (.inl ⟨by simp [Lib.compareBytes, e1], by simp [Op.bytesLess, e2], by simp [Op.bytesLess, e3], by simp [e4]⟩)
    ·exact .inr (.inr ⟨by simp [Lib.compareBytes, e1], by simp [Op.bytesLess, e2], by simp [Op.bytesLess, e3], by simp [e4]⟩)

theorem ltN_iff (a b : ByteArray) : ltN a b = true ↔ Lib.compareBytes a.data.toList b.data.toList < 0 := by
 unfold ltN
 rw [ByteArray.toList_eq, ByteArray.toList_eq]
 rcases cmpL_cases a.data.toList b.data.toList with ⟨e1, e2, _, _⟩ | ⟨e1, e2, _, _⟩ | ⟨e1, e2, _, _⟩ <;> rw [e1, e2] <;> simp
theorem eqN_iff (a b : ByteArray) : a = b ↔ Lib.compareBytes a.data.toList b.data.toList = 0 := by
 rcases cmpL_cases a.data.toList b.data.toList with ⟨e1, _, _, e2⟩ | ⟨e1, _, _, e2⟩ | ⟨e1, _, _, e2⟩
 ·rw [e1]
  exact ⟨fun h => absurd (by rw [h]) e2, fun h => by cases h⟩
 ·rw [e1]
  exact ⟨fun _ => rfl, fun _ => ByteArray.ext (Array.toList_inj.1 e2)⟩
 ·rw [e1]
  exact ⟨fun h => absurd (by rw [h]) e2, fun h => by cases h⟩

theorem put_of {α : Type} {nm : α → ByteArray} {xs : List α} {a : α} {i : Nat} {q : Bool} (hi : i ≤ xs.length) (h1 : ∀ (j : Nat) u, j < i → xs[j]? = some u → Lib.compareBytes (nm u).data.toList (nm a).data.toList < 0) (h2 : ∀ (j : Nat) u, i ≤ j → xs[j]? = some u → 0 ≤ Lib.compareBytes (nm u).data.toList (nm a).data.toList)
  (hq : q = true ↔ ∃ y, xs[i]? = some y ∧ nm y = nm a) : putN nm xs a = xs.take i ++ a :: xs.drop (if q = true then i + 1 else i) := by
 have hl : ∀ x ∈ xs.take i, ltN (nm x) (nm a) = true := by
  intro x hx
  obtain ⟨j, hj⟩ := List.getElem?_of_mem hx
  have hji : j < i := by have h9 := lt_of_some hj; rw [List.length_take] at h9; omega
  rw [List.getElem?_take_of_lt hji] at hj
  exact (ltN_iff _ _).2 (h1 j x hji hj)
 by_cases hil : i < xs.length
 ·have hy : xs[i]? = some xs[i] := List.getElem?_eq_getElem hil
  have hn : ltN (nm xs[i]) (nm a) = false := by
   rw [Bool.eq_false_iff]
   intro h9
   have h8 := (ltN_iff _ _).1 h9
   have h7 := h2 i _ nL hy
   omega
  by_cases he : nm xs[i] = nm a
  ·have : q = true := hq.2 ⟨_, hy, he⟩
   rw [if_pos this]
   exact putN_over hl hy hn he
  ·have : ¬ q = true := fun h => by
    obtain ⟨y, h9, h8⟩ := hq.1 h
    rw [hy] at h9
    cases h9
    exact he h8
   rw [if_neg this]
   exact putN_new hl hy hn he
 ·have hie : i = xs.length := by omega
  subst hie
  have : ¬ q = true := fun h => by
   obtain ⟨y, h9, h8⟩ := hq.1 h
   simp at h9
  rw [if_neg this, List.drop_length]
  exact putN_end hl

end Go.Proofs.YtihnjndnkgnmaaaGreat

namespace Go.Proofs.YtihnjndnkgnmaaaGreat
open Go.RowKit

structure Svc where
 name : ByteArray
 spare : Int

def wSvc (x : Svc) : Nat := x.name.size

def SvcC : Make Svc := fun _ _ f x => f 0 = some (.string x.name) ∧ f 1 = some (.int .i64 x.spare) ∧ x.name.size ≤ maxLen

theorem SvcC.holds : Holds SvcC 2 := by
 rintro lo lo' w w' f g x h _ _ ⟨q0, q1, z0⟩
 exact ⟨(h 0 (by omega)).trans q0, (h 1 (by omega)).trans q1, z0⟩

set_option maxHeartbeats 1000000 in
theorem szSvc_any (x : Svc)  (L : Int) (w : World) (z0 : x.name.size ≤ maxLen)  (h0 : 0 ≤ L) (h1 : L ≤ 1048576) :
  Calls Tryz.prog 44 #[.agg #[.string x.name, .int .i64 x.spare], .int .i64 L] w fun e w' => e = .returned (.int .i64 (szR (wSvc x) L)) ∧ Below w.heap.size w w' := by
 unfold maxLen at z0
 have HW : Hid (wSvc x = x.name.size) := rfl
 generalize wSvc x = W at *
 by_cases d0 : L - (x.name.size : Nat) < 0
 ·go_enter Tryz.func44, Tryz.ntmps44
  go_wp2_with fail
  go_ret
  exact ⟨ret_int (by have := HW.out; unfold szR; rw [if_neg (by omega)]), by go_grown⟩
 ·skip
  go_enter Tryz.func44, Tryz.ntmps44
  go_wp2_with fail
  go_ret
  exact ⟨ret_int (by have := HW.out; unfold szR; rw [if_pos (by omega)]; omega), by go_grown⟩

theorem isz_Svc : (Tryz.prog.info? 94).map (·.size) = some 2 := by kernel_rfl

set_option maxHeartbeats 2000000 in
theorem toSvc_any (x : Svc) (w : World) :
  Calls Tryz.prog 58 #[.agg #[.string x.name, .int .i64 x.spare]] w fun e w' => e = .returned (.agg #[.string x.name, .int .i64 x.spare]) ∧ Below w.heap.size w w' := by
 go_enter Tryz.func58, Tryz.ntmps58
 go_wp2
 go_returns
 exact ⟨rfl, by go_grown⟩

set_option maxHeartbeats 2000000 in
theorem eqSvc_any (x : Svc) (w : World) :
  Calls Tryz.prog 72 #[.agg #[.string x.name, .int .i64 x.spare], .agg #[.string x.name, .int .i64 x.spare]] w fun e w' => e = .returned (.bool true) ∧ Below w.heap.size w w' := by
 go_enter Tryz.func72, Tryz.ntmps72
 go_wp2
 go_ret
 exact ⟨rfl, by go_grown⟩

set_option maxHeartbeats 1000000 in
theorem szSvcS_any (xs : List Svc) (a : Option Addr) (cap lo : Nat) (L : Int) (w : World) (hin : SliceC SvcC 2 lo w a xs) (h0 : 0 ≤ L) (h1 : L ≤ 1048576) :
  Calls Tryz.prog 16 #[.slice a xs.length cap, .int .i64 L] w fun e w' => e = .returned (.int .i64 (szR (wS wSvc xs) L)) ∧ Below w.heap.size w w' := by
 have hlen := hin.1
 unfold maxLen at hlen
 have HI : Hid (SliceC SvcC 2 lo w a xs) := hin
 clear hin
 have HW : Hid (wS wSvc xs = xs.length + (xs.map wSvc).sum) := rfl
 generalize wS wSvc xs = W at *
 by_cases c1 : L - xs.length < 0
 ·go_enter Tryz.func16, Tryz.ntmps16
  go_wp2_with fail
  go_ret
  exact ⟨ret_int (by have := HW.out; unfold szR; rw [if_neg (by omega)]), Below.refl _ _⟩
 ·go_enter Tryz.func16, Tryz.ntmps16
  go_wp2_with fail
  go_loopw [1, 5] (fun l i wr => ∃ (k : Nat) (M : Int), k ≤ xs.length ∧ i = .int .i64 k ∧ l = .int .i64 M ∧ 0 ≤ M ∧ M ≤ 1048576 ∧ Hid (M = L - xs.length - ((xs.take k).map wSvc).sum) ∧ Below w.heap.size w wr) (fun _ i _ => xs.length - (intOf i).toNat)
  case atStart => exact ⟨0, _, Nat.zero_le _, rfl, rfl, by omega, by omega, by show _ = _; simp, Below.refl _ _⟩
  case round =>
   obtain ⟨k, M, hk, rfl, rfl, hM0, hM1, hM, hbel⟩ := hrel
   by_cases hlt : k < xs.length
   ·obtain ⟨x, hx⟩ : ∃ x, xs[k]? = some x := ⟨xs[k], List.getElem?_eq_getElem hlt⟩
    obtain ⟨b, o, rfl, _, _, hc⟩ := (HI.out.below SvcC.holds hbel nL).at hx
    obtain ⟨q0, q1, z0⟩ := hc
    simp only [Nat.add_zero] at q0 q1
    have HX : Hid (((xs.take (k + 1)).map wSvc).sum = ((xs.take k).map wSvc).sum + wSvc x) := sum_take _ _ _ _ hx
    have HY : Hid (((xs.take (k + 1)).map wSvc).sum ≤ (xs.map wSvc).sum) := sum_take_le _ _ _
    have CT := szSvc_any x M wr z0 hM0 hM1
    have HCT := iH CT
    clear hx CT
    by_cases hr : (wSvc x : Int) ≤ M
    ·rw [szR_pos hr] at HCT
     generalize hV : wSvc x = V at *
     clear hV
     go_wp2_with fail
     refine HCT.out.mono ?_
     rintro e w1 ⟨rfl, hb1⟩
     clear HCT
     go_wp2_with fail
     go_roundw
     case rel =>
      refine ⟨k + 1, M - V, by omega, by go_num, rfl, by omega, by omega, ?_, hbel.trans (hb1.mono hbel.size)⟩
      have := hM.out
      have := HX.out
      show _ = _
      omega
     case measure => simp [intOf]; omega
    ·rw [szR_neg hr] at HCT
     generalize hV : wSvc x = V at *
     clear hV
     go_wp2_with fail
     refine HCT.out.mono ?_
     rintro e w1 ⟨rfl, hb1⟩
     clear HCT
     go_wp2_with fail
     go_ret
     refine ⟨ret_int ?_, hbel.trans (hb1.mono hbel.size)⟩
     have := HW.out
     have := HX.out
     have := HY.out
     have := hM.out
     unfold szR
     rw [if_neg (by omega)]
   ·go_wp2_with fail
    go_ret
    refine ⟨ret_int ?_, hbel⟩
    have hke : k = xs.length := by omega
    subst hke
    have h3 := hM.out
    have h4 := HW.out
    simp only [List.take_length] at h3
    unfold szR
    rw [if_pos (by omega)]
    omega

theorem info_Svc : (Tryz.prog.info? 94).map (fun i => (i.zero, i.size, i.bytes)) = some (some (.agg #[.string ⟨#[]⟩, .int .i64 0]), 2, 24) := by kernel_rfl

set_option maxHeartbeats 2000000 in
theorem toSvcS_any (xs : List Svc) (a : Option Addr) (cap lo : Nat) (w : World) (hin : SliceC SvcC 2 lo w a xs) (hsm : wS wSvc xs ≤ 1048576) :
  Calls Tryz.prog 24 #[.slice a xs.length cap] w fun e w' => ∃ g, e = .returned (.slice (some ⟨g, 0, none⟩) xs.length xs.length) ∧ w.heap.size ≤ g ∧ SliceC SvcC 2 w.heap.size w' (some ⟨g, 0, none⟩) xs ∧ Below w.heap.size w w' := by
 obtain ⟨i0, hi, hz0, hz1, hz2⟩ := info_parts info_Svc
 have hlen : xs.length ≤ 1048576 := Nat.le_trans wS_len hsm
 have HI : Hid (SliceC SvcC 2 lo w a xs) := hin
 have HSM : Hid (wS wSvc xs ≤ 1048576) := hsm
 clear hin hsm
 go_enter Tryz.func24, Tryz.ntmps24
 go_wp2_with (at_make; refine wpList_make_full _ rfl _ _ 38 rfl w.heap.size 94 i0 _ 2 Tryz.underlying38 hi hz0 hz1 .i64 .i64 _ _ xs.length rfl rfl rfl rfl (by rw [hz2]; omega) (by unfold maxLen; omega) nL ?_; intro w1 hown hgrow)
 have hb1 : Below w.heap.size w w1 := (Below.refl _ _).grown hgrow nL (fun k h => by cases h)
 have hsz1 := (hown.lt w.heap.size rfl).2
 generalize hX : (madeCells _ (xs.length * 2)).toList = xs0 at hown
 clear hX hgrow hi hz0 hz1 hz2
 go_loopw [4] (fun i wr => ∃ (k : Nat) (cs : List Value), k ≤ xs.length ∧ i = .int .i64 k ∧ w.heap.size < wr.heap.size ∧ wr.ownsRow w.heap.size 94 2 (.slice (some ⟨w.heap.size, 0, none⟩) xs.length xs.length) xs.length cs ∧ RowC SvcC 2 (w.heap.size + 1) wr cs xs k ∧ Below w.heap.size w wr) (fun i _ => xs.length - (intOf i).toNat)
 case atStart => exact ⟨0, xs0, Nat.zero_le _, rfl, hsz1, hown, fun j n h => by omega, hb1⟩
 case round =>
  clear hown hb1 hsz1
  obtain ⟨k, cs, hk, rfl, hszr, hown, hfil, hbel⟩ := hrel
  by_cases hlt : k < xs.length
  ·obtain ⟨x, hx⟩ : ∃ x, xs[k]? = some x := ⟨xs[k], List.getElem?_eq_getElem hlt⟩
   obtain ⟨b, o, rfl, _, _, hc⟩ := (HI.out.below SvcC.holds hbel nL).at hx
   obtain ⟨q0, q1, z0⟩ := hc
   simp only [Nat.add_zero] at q0 q1
   have HN : Hid (xs[k]? = some x) := hx
   have hwx : wSvc x ≤ 1048576 := Nat.le_trans (wS_mem (List.mem_of_getElem? hx)) HSM.out
   have HO : Hid (wr.ownsRow w.heap.size 94 2 (.slice (some ⟨w.heap.size, 0, none⟩) xs.length xs.length) xs.length cs) := hown
   have HF : Hid (RowC SvcC 2 (w.heap.size + 1) wr cs xs k) := hfil
   have HS : Hid (w.heap.size < wr.heap.size) := hszr
   have CT := toSvc_any x wr
   have HCT := iH CT
   clear hx hown hfil CT hszr
   go_wp2_with fail
   refine HCT.out.mono ?_
   rintro e w2 ⟨rfl, hb2⟩
   clear HCT q0 q1
   have ho2 := ownsRow_below HO.out hb2
   have HB2 : Hid (Below w.heap.size w w2) := hbel.trans (hb2.mono hbel.size)
   have HF2 : Hid (RowC SvcC 2 (w.heap.size + 1) w2 cs xs k) := HF.out.keep SvcC.holds (Keeps.of_below hb2 nL _)
   have hs2 : Hid (w.heap.size < w2.heap.size) := Nat.lt_of_lt_of_le HS.out hb2.size
   have HR : Hid (SvcC (w.heap.size + 1) w2 (fun i => ([.string x.name, .int .i64 x.spare] : List Value)[i]?) x) := ⟨rfl, rfl, z0⟩
   have hxl : cs.length = xs.length * 2 := ho2.1
   have HT : Hid (w2.there w.heap.size (k * 2) 2) := ownsRow_there ho2 (by omega)
   have HL : Hid (cs.length = xs.length * 2) := hxl
   have HO2 : Hid (w2.ownsRow w.heap.size 94 2 (.slice (some ⟨w.heap.size, 0, none⟩) xs.length xs.length) xs.length cs) := ho2
   clear hxl ho2 HO hb2 hwx
   obtain ⟨w3, hw3⟩ : ∃ w', w' = w2.setCells w.heap.size (k * 2) [.string x.name, .int .i64 x.spare] := ⟨_, rfl⟩
   have HW3 : Hid (w3 = w2.setCells w.heap.size (k * 2) [.string x.name, .int .i64 x.spare]) := hw3
   have HS3 : Hid (w.heap.size < w3.heap.size) := by rw [hw3, size_setCells]; exact hs2
   have HO3 : Hid (w3.ownsRow w.heap.size 94 2 (.slice (some ⟨w.heap.size, 0, none⟩) xs.length xs.length) xs.length (setRun cs (k * 2) [.string x.name, .int .i64 x.spare])) := by rw [hw3]; exact ownsRow_run _ _ _ _ HO2.out
   have HB3 : Hid (Below w.heap.size w w3) := by rw [hw3]; exact below_setCells nL _ _ _ HB2.out
   have HR3 : Hid (RowC SvcC 2 (w.heap.size + 1) w3 (setRun cs (k * 2) [.string x.name, .int .i64 x.spare]) xs (k + 1)) := by
    rw [hw3]
    exact (HF2.out.step (vs := [.string x.name, .int .i64 x.spare]) SvcC.holds HN.out rfl (by have := HL.out; omega) HR.out).keep SvcC.holds (Keeps.setCells (by omega) _ _ _)
   clear hw3 HB2 HF2 hs2 HR HL HO2
   go_wp2_with (refine wpList_store_to rfl 94 _ _ rfl w.heap.size (k * 2) #[.string x.name, .int .i64 x.spare] (by first | rfl | (simp [go_sem]; done)) rfl HT.out isz_Svc (by simp [Value.oneCell']) w3 HW3.out ?_)
   go_roundw
   case rel => exact ⟨k + 1, _, by omega, by go_num, HS3.out, HO3.out, HR3.out, HB3.out⟩
   case measure => simp [intOf]; omega
  ·have HO : Hid (wr.ownsRow w.heap.size 94 2 (.slice (some ⟨w.heap.size, 0, none⟩) xs.length xs.length) xs.length cs) := hown
   have HF : Hid (RowC SvcC 2 (w.heap.size + 1) wr cs xs k) := hfil
   clear hown hfil
   go_wp2_with fail
   go_ret
   have hke : k = xs.length := by omega
   subst hke
   exact ⟨_, rfl, Nat.le_refl _, sliceC_of_row HO.out HF.out SvcC.holds HI.out.1 (by omega) nL, hbel⟩

set_option maxHeartbeats 2000000 in
theorem eqSvcS_any (xs : List Svc) (a a' : Option Addr) (cap cap' lo lo' : Nat) (w : World) (hg : SliceC SvcC 2 lo w a xs) (hh : SliceC SvcC 2 lo' w a' xs) (hsm : wS wSvc xs ≤ 1048576) :
  Calls Tryz.prog 32 #[.slice a xs.length cap, .slice a' xs.length cap'] w fun e w' => e = .returned (.bool true) ∧ Below w.heap.size w w' := by
 have hlen : xs.length ≤ 1048576 := Nat.le_trans wS_len hsm
 have HG : Hid (SliceC SvcC 2 lo w a xs) := hg
 have HH : Hid (SliceC SvcC 2 lo' w a' xs) := hh
 clear hg hh hsm
 go_enter Tryz.func32, Tryz.ntmps32
 go_wp2_with fail
 go_loopw [5] (fun i wr => ∃ (k : Nat), k ≤ xs.length ∧ i = .int .i64 k ∧ Below w.heap.size w wr) (fun i _ => xs.length - (intOf i).toNat)
 case atStart => exact ⟨0, Nat.zero_le _, rfl, Below.refl _ _⟩
 case round =>
  obtain ⟨k, hk, rfl, hbel⟩ := hrel
  by_cases hlt : k < xs.length
  ·obtain ⟨x, hx⟩ : ∃ x, xs[k]? = some x := ⟨xs[k], List.getElem?_eq_getElem hlt⟩
   obtain ⟨b, o, rfl, _, _, hc⟩ := (HG.out.below SvcC.holds hbel nL).at hx
   obtain ⟨b', o', rfl, _, _, hc'⟩ := (HH.out.below SvcC.holds hbel nL).at hx
   obtain ⟨q0, q1, _⟩ := hc
   obtain ⟨r0, r1, _⟩ := hc'
   simp only [Nat.add_zero] at q0 q1 r0 r1
   have k0 := cell_regrown q0
   have l0 := cell_regrown r0
   have k1 := cell_regrown q1
   have l1 := cell_regrown r1
   have cE : ∀ d os, Calls Tryz.prog 72 #[.agg #[.string x.name, .int .i64 x.spare], .agg #[.string x.name, .int .i64 x.spare]] (Sort.grow (redrawn wr d) os) fun e w'' => e = .returned (.bool true) ∧ ∃ p : Regrown, w'' = Sort.grow (redrawn wr p.d) p.os := fun d os => Calls.regrown_of (eqSvc_any x _)
   have i0 : (0 : Int) ≤ (k : Int) := by omega
   have i1 : (k : Int) < (xs.length : Int) := by omega
   clear hx q0 q1 r0 r1
   go_wp2_with fail
   refine wp_region_quiet_below (by kernel_rfl) (by kernel_rfl) ?_
   repeat (quiet_step (first | exact cE _ _))
   refine wpQuiet_nil ?_
   intro _ hw'
   obtain ⟨⟨dq, osq⟩, hw''⟩ := hw'
   have hB := hbel.trans ((below_regrown wr dq osq).mono hbel.size)
   simp only [] at hw''
   rw [← hw''] at hB
   clear hw'' cE k0 l0 k1 l1
   go_wp2_with fail
   go_roundw
   case rel => exact ⟨k + 1, by omega, by go_num, hB⟩
   case measure => simp [intOf]; omega
  ·go_wp2_with fail
   go_ret
   exact ⟨rfl, hbel⟩

end Go.Proofs.YtihnjndnkgnmaaaGreat
