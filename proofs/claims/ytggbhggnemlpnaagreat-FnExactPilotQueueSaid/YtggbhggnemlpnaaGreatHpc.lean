/-
  The order of copies that wait, by the program. Made by mkhpc.py.
-/
import Derived.Test.YtggbhggnemlpnaaGreatHpr
import Derived.Test.YtggbhggnemlpnaaGreatJ39
import Derived.Lib.Bytealg
import Derived.Laws.Externs
namespace Go.Proofs.YtggbhggnemlpnaaGreat
open Go.RowKit

set_option maxHeartbeats 1000000 in
set_option maxRecDepth 100000 in
theorem cmpString_any (a b : ByteArray) (w : World) :
    Calls Tryz.prog 112 #[.string a, .string b] w fun e w' => e = .returned (.int .i64 (Lib.compareBytes a.data.toList b.data.toList)) ∧ w' = w := by
  go_enter Tryz.func112, Tryz.ntmps112
  go_wp2
  rw [run_callFunc_extern Tryz.func134 (by kernel_rfl) (by kernel_rfl) (by kernel_rfl) (e := Extern.BytealgCompare.compare) (by kernel_rfl), Lib.run_compareString]
  simp only [Result.andThen]
  rw [Oper.upon_value]
  go_wp2
  go_ret
  exact ⟨rfl, rfl⟩

theorem strCmp_any (a b : ByteArray) (w : World) :
    Calls Tryz.prog 92 #[.string a, .string b] w fun e w' => e = .returned (.int .i64 (Lib.compareBytes a.data.toList b.data.toList)) ∧ w' = w := by
  go_enter Tryz.func92, Tryz.ntmps92
  go_wp2_with (go_at_call 112; refine (cmpString_any _ _ _).mono ?_; rintro e w' ⟨rfl, rfl⟩)
  go_ret
  exact ⟨rfl, rfl⟩

/-- the three ways that two texts stand -/
theorem cmpL_cases : ∀ (a b : List UInt8), (Lib.compareBytes a b = -1 ∧ Op.bytesLess a b = true ∧ Op.bytesLess b a = false ∧ a ≠ b) ∨ (Lib.compareBytes a b = 0 ∧ Op.bytesLess a b = false ∧ Op.bytesLess b a = false ∧ a = b) ∨ (Lib.compareBytes a b = 1 ∧ Op.bytesLess a b = false ∧ Op.bytesLess b a = true ∧ a ≠ b)
  | [], [] => .inr (.inl ⟨rfl, rfl, rfl, rfl⟩)
  | [], _ :: _ => .inl ⟨rfl, rfl, rfl, by simp⟩
  | _ :: _, [] => .inr (.inr ⟨rfl, rfl, rfl, by simp⟩)
  | x :: a, y :: b => by
    by_cases h1 : x < y
    · have h2 : ¬ y < x := fun h => UInt8.lt_asymm h1 h
      have h3 : ¬ x = y := fun e => by subst e; exact UInt8.lt_irrefl _ h1
      have h4 : ¬ y = x := fun e => h3 e.symm
      exact .inl ⟨by simp [Lib.compareBytes, h1], by simp [Op.bytesLess, h1], by simp [Op.bytesLess, h2, h4], by simp [h3]⟩
    · by_cases h2 : y < x
      · have h3 : ¬ x = y := fun e => by subst e; exact UInt8.lt_irrefl _ h2
        have h4 : ¬ y = x := fun e => h3 e.symm
        exact .inr (.inr ⟨by simp [Lib.compareBytes, h1, h2], by simp [Op.bytesLess, h1, h3], by simp [Op.bytesLess, h2], by simp [h3]⟩)
      · have h3 : x = y := UInt8.le_antisymm (UInt8.not_lt.1 h2) (UInt8.not_lt.1 h1)
        subst h3
        have hi := UInt8.lt_irrefl x
        rcases cmpL_cases a b with ⟨e1, e2, e3, e4⟩ | ⟨e1, e2, e3, e4⟩ | ⟨e1, e2, e3, e4⟩
        · exact .inl ⟨by simp [Lib.compareBytes, e1], by simp [Op.bytesLess, e2], by simp [Op.bytesLess, e3], by simp [e4]⟩
        · exact .inr (.inl ⟨by simp [Lib.compareBytes, e1], by simp [Op.bytesLess, e2], by simp [Op.bytesLess, e3], by simp [e4]⟩)
        · exact .inr (.inr ⟨by simp [Lib.compareBytes, e1], by simp [Op.bytesLess, e2], by simp [Op.bytesLess, e3], by simp [e4]⟩)

theorem isNaN_any (n : Int) (w : World) :
    Calls Tryz.prog 98 #[.int .i64 n] w fun e w' => e = .returned (.bool false) ∧ w' = w := by
  go_enter Tryz.func98, Tryz.ntmps98
  go_wp2_with fail
  go_ret
  exact ⟨ret_bool (by simp), rfl⟩

/-- two numbers held against each other -/
def cmpI (a b : Int) : Int := if a < b then -1 else if b < a then 1 else 0

set_option maxHeartbeats 1000000 in
theorem cmpInt_any (a b : Int) (w : World) :
    Calls Tryz.prog 73 #[.int .i64 a, .int .i64 b] w fun e w' => e = .returned (.int .i64 (cmpI a b)) ∧ w' = w := by
  by_cases h1 : a < b
  · have HE : Hid (cmpI a b = -1) := if_pos h1
    go_enter Tryz.func73, Tryz.ntmps73
    go_wp2_with (go_at_call 98; refine (isNaN_any _ _).mono ?_; rintro e w' ⟨rfl, rfl⟩)
    go_ret
    exact ⟨ret_int HE.out.symm, rfl⟩
  · by_cases h2 : b < a
    · have HE : Hid (cmpI a b = 1) := by show _ = _; unfold cmpI; rw [if_neg h1, if_pos h2]
      have h3 : decide (a < b) = false := by simpa using h1
      clear h1
      go_enter Tryz.func73, Tryz.ntmps73
      go_wp2_with (go_at_call 98; refine (isNaN_any _ _).mono ?_; rintro e w' ⟨rfl, rfl⟩)
      go_ret
      exact ⟨ret_int HE.out.symm, rfl⟩
    · have h3 : a = b := by omega
      subst h3
      have HE : Hid (cmpI a a = 0) := by show _ = _; unfold cmpI; rw [if_neg h1, if_neg h2]
      clear h1 h2
      go_enter Tryz.func73, Tryz.ntmps73
      go_wp2_with (go_at_call 98; refine (isNaN_any _ _).mono ?_; rintro e w' ⟨rfl, rfl⟩)
      go_ret
      exact ⟨ret_int HE.out.symm, rfl⟩

/-- ahead in the queue -/
def ahW (c d : Cpy) : Bool := if d.rank < c.rank then true else if c.rank < d.rank then false else if c.born < d.born then true else if d.born < c.born then false else Op.bytesLess c.name.toList d.name.toList

def or3 (a b c : Int) : Int := if a = 0 then (if b = 0 then c else b) else a
def cmW (c d : Cpy) : Int := or3 (cmpI d.rank c.rank) (cmpI c.born d.born) (Lib.compareBytes c.name.data.toList d.name.data.toList)

theorem cmW_ah (c d : Cpy) : decide (cmW c d < 0) = ahW c d := by
  unfold cmW or3 cmpI ahW
  by_cases h1 : d.rank < c.rank
  · simp [h1]
  · by_cases h2 : c.rank < d.rank
    · simp [h1, h2]
    · by_cases h3 : c.born < d.born
      · simp [h1, h2, h3]
      · by_cases h4 : d.born < c.born
        · simp [h1, h2, h3, h4]
        · simp only [h1, h2, h3, h4, if_false, if_true]
          have e : ∀ b : ByteArray, b.toList = b.data.toList := fun b => ByteArray.toList_eq b
          rw [e, e]
          rcases cmpL_cases c.name.data.toList d.name.data.toList with ⟨e1, e2, _⟩ | ⟨e1, e2, _⟩ | ⟨e1, e2, _⟩ <;> rw [e1, e2] <;> decide

theorem ahW_irr (c : Cpy) : ahW c c = false := by
  unfold ahW
  rw [if_neg (by omega), if_neg (by omega), if_neg (by omega), if_neg (by omega)]
  exact bl_irr _
theorem ahW_tr {a b c : Cpy} (h1 : ahW a b = true) (h2 : ahW b c = true) : ahW a c = true := by
  unfold ahW at *
  by_cases p1 : c.rank < a.rank
  · rw [if_pos p1]
  · rw [if_neg p1]
    by_cases p2 : a.rank < c.rank
    · exfalso
      by_cases q1 : b.rank < a.rank
      · rw [if_neg (show ¬ c.rank < b.rank by omega), if_pos (show b.rank < c.rank by omega)] at h2; cases h2
      · rw [if_neg q1] at h1
        by_cases q2 : a.rank < b.rank
        · rw [if_pos q2] at h1; cases h1
        · rw [if_neg (show ¬ c.rank < b.rank by omega), if_pos (show b.rank < c.rank by omega)] at h2; cases h2
    · rw [if_neg p2]
      have hb1 : ¬ b.rank < a.rank := fun h => by rw [if_neg (show ¬ c.rank < b.rank by omega), if_pos (show b.rank < c.rank by omega)] at h2; cases h2
      have hb2 : ¬ a.rank < b.rank := fun h => by rw [if_neg hb1, if_pos h] at h1; cases h1
      rw [if_neg hb1, if_neg hb2] at h1
      rw [if_neg (show ¬ c.rank < b.rank by omega), if_neg (show ¬ b.rank < c.rank by omega)] at h2
      by_cases r1 : a.born < b.born
      · by_cases r2 : b.born < c.born
        · rw [if_pos (by omega)]
        · rw [if_neg r2] at h2
          by_cases r3 : c.born < b.born
          · rw [if_pos r3] at h2; cases h2
          · rw [if_pos (by omega)]
      · rw [if_neg r1] at h1
        by_cases r4 : b.born < a.born
        · rw [if_pos r4] at h1; cases h1
        · rw [if_neg r4] at h1
          by_cases r2 : b.born < c.born
          · rw [if_pos (by omega)]
          · rw [if_neg r2] at h2
            by_cases r3 : c.born < b.born
            · rw [if_pos r3] at h2; cases h2
            · rw [if_neg r3] at h2
              rw [if_neg (by omega), if_neg (by omega)]
              exact bl_tr _ _ _ h1 h2
theorem bl_tot {a b : List UInt8} (h1 : Op.bytesLess a b = false) (h2 : Op.bytesLess b a = false) : a = b := by
  rcases cmpL_cases a b with ⟨_, e, _⟩ | ⟨_, _, _, e⟩ | ⟨_, _, e, _⟩
  · rw [e] at h1; cases h1
  · exact e
  · rw [e] at h2; cases h2
theorem toList_injQ {s t : ByteArray} (h : s.toList = t.toList) : s = t := by
  rw [ByteArray.toList_eq, ByteArray.toList_eq] at h
  exact ByteArray.ext (Array.toList_inj.1 h)
theorem ahW_tot {a b : Cpy} (h1 : ahW a b = false) (h2 : ahW b a = false) : a.name = b.name := by
  unfold ahW at *
  by_cases p1 : b.rank < a.rank
  · rw [if_pos p1] at h1; cases h1
  · by_cases p2 : a.rank < b.rank
    · rw [if_pos p2] at h2; cases h2
    · rw [if_neg p1, if_neg p2] at h1
      rw [if_neg p2, if_neg p1] at h2
      by_cases q1 : a.born < b.born
      · rw [if_pos q1] at h1; cases h1
      · by_cases q2 : b.born < a.born
        · rw [if_pos q2] at h2; cases h2
        · rw [if_neg q1, if_neg q2] at h1
          rw [if_neg q2, if_neg q1] at h2
          have := bl_tot h1 h2
          exact toList_injQ this

/-- the comparison of places: those that are there as their copies, ahead of all others -/
def cfQ (x : Flt) (a b : Nat) : Int := match x.copies[a]?, x.copies[b]? with
  | some c, some d => cmW c d
  | some _, none => -1
  | none, some _ => 1
  | none, none => cmpI a b

theorem ltQ (x : Flt) (hc : AscN (cpN x)) : LtO (ltF (cfQ x)) := by
  have key : ∀ a b, ltF (cfQ x) a b = match x.copies[a]?, x.copies[b]? with
      | some c, some d => ahW c d
      | some _, none => true
      | none, some _ => false
      | none, none => decide (a < b) := by
    intro a b
    unfold ltF cfQ
    cases x.copies[a]? with
    | some c =>
      cases x.copies[b]? with
      | some d => exact cmW_ah c d
      | none => rfl
    | none =>
      cases x.copies[b]? with
      | some d => rfl
      | none =>
        simp only
        unfold cmpI
        by_cases h : a < b
        · have h' : (a : Int) < (b : Int) := by omega
          simp [h, h']
        · have h' : ¬ (a : Int) < (b : Int) := by omega
          by_cases h2 : (b : Int) < (a : Int) <;> simp [h, h', h2]
  constructor
  · intro a
    rw [key]
    cases x.copies[a]? with
    | some c => exact ahW_irr c
    | none => simp
  · intro a b c h1 h2
    rw [key] at *
    cases ha : x.copies[a]? with
    | some ca =>
      rw [ha] at h1
      cases hcc : x.copies[c]? with
      | none => rfl
      | some cc =>
        rw [hcc] at h2
        cases hb : x.copies[b]? with
        | none => rw [hb] at h2; cases h2
        | some cb =>
          rw [hb] at h1 h2
          exact ahW_tr h1 h2
    | none =>
      rw [ha] at h1
      cases hb : x.copies[b]? with
      | some cb => rw [hb] at h1; cases h1
      | none =>
        rw [hb] at h1 h2
        cases hcc : x.copies[c]? with
        | some cc => rw [hcc] at h2; cases h2
        | none =>
          rw [hcc] at h2
          simp at *
          omega
  · intro a b h1 h2
    rw [key] at *
    cases ha : x.copies[a]? with
    | some ca =>
      rw [ha] at h1 h2
      cases hb : x.copies[b]? with
      | none => rw [hb] at h1; cases h1
      | some cb =>
        rw [hb] at h1 h2
        have hn := ahW_tot h1 h2
        have h3 : (cpN x)[a]? = some ca.name := map_get ha
        have h4 : (cpN x)[b]? = some ca.name := by rw [hn]; exact map_get hb
        exact hc.inj h3 h4
    | none =>
      rw [ha] at h1 h2
      cases hb : x.copies[b]? with
      | some cb => rw [hb] at h2; cases h2
      | none =>
        rw [hb] at h1 h2
        simp at *
        omega

/-- the cells of a copy -/
theorem rngCpy {lo : Nat} {w : World} {b o : Nat} {c : Cpy} (h : CpyC lo w (fun i => w.cell? ⟨b, o + i, none⟩) c) : ∃ (la : Option Addr) (lc : Nat), w.rangeAt b o [.string c.name, .string c.service, .int .i64 c.rank, .int .i64 c.born, .int .i64 c.room, .int .i64 c.hold, .string c.select, .slice la c.likes.length lc, .int .i64 c.apart, .string c.near, .string c.fixed, .string c.at_] := by
  obtain ⟨a7, c7, q0, q1, q2, q3, q4, q5, q6, q7, q8, q9, q10, q11, _⟩ := h
  refine ⟨a7, c7, ?_⟩
  intro j v hj
  have hjl : j < 12 := by have := lt_of_some hj; simpa using this
  have hc : j = 0 ∨ j = 1 ∨ j = 2 ∨ j = 3 ∨ j = 4 ∨ j = 5 ∨ j = 6 ∨ j = 7 ∨ j = 8 ∨ j = 9 ∨ j = 10 ∨ j = 11 := by omega
  rcases hc with rfl | rfl | rfl | rfl | rfl | rfl | rfl | rfl | rfl | rfl | rfl | rfl <;> (cases hj; assumption)

set_option maxHeartbeats 2000000 in
set_option maxRecDepth 100000 in
theorem cmpOr3_any (a b c : Int) (g : Nat) (w : World) (h0 : w.cell? ⟨g, 0, none⟩ = some (.int .i64 a)) (h1 : w.cell? ⟨g, 1, none⟩ = some (.int .i64 b)) (h2 : w.cell? ⟨g, 2, none⟩ = some (.int .i64 c)) :
    Calls Tryz.prog 91 #[.slice (some ⟨g, 0, none⟩) 3 3] w fun e w' => e = .returned (.int .i64 (or3 a b c)) ∧ w' = w := by
  go_enter Tryz.func91, Tryz.ntmps91
  go_wp2_with fail
  go_loop [8] (fun i => ∃ k : Nat, i = .int .i64 k ∧ Hid (k = 0 ∨ (k = 1 ∧ a = 0) ∨ (k = 2 ∧ a = 0 ∧ b = 0) ∨ (k = 3 ∧ a = 0 ∧ b = 0 ∧ c = 0))) (fun i => 3 - (intOf i).toNat)
  case atStart => exact ⟨0, rfl, .inl rfl⟩
  case round =>
    obtain ⟨k, rfl, HC⟩ := hrel
    rcases HC.out with e | ⟨e, ca⟩ | ⟨e, ca, cb⟩ | ⟨e, ca, cb, cc⟩
    · subst e
      by_cases ha : a = 0
      · have hb : (a == 0) = true := by simpa using ha
        have HA := Hid.intro ha
        clear ha
        go_wp2_with fail
        go_round
        case rel => exact ⟨1, rfl, .inr (.inl ⟨rfl, HA.out⟩)⟩
        case measure => simp [intOf]
      · have HE : Hid (or3 a b c = a) := if_neg ha
        have hb : (a == 0) = false := by simpa using ha
        go_wp2_with fail
        go_ret
        exact ⟨ret_int HE.out.symm, rfl⟩
    · subst e
      have HA := Hid.intro ca
      clear ca
      by_cases hb : b = 0
      · have hb2 : (b == 0) = true := by simpa using hb
        have HB := Hid.intro hb
        clear hb
        go_wp2_with fail
        go_round
        case rel => exact ⟨2, rfl, .inr (.inr (.inl ⟨rfl, HA.out, HB.out⟩))⟩
        case measure => simp [intOf]
      · have hb2 : (b == 0) = false := by simpa using hb
        have HO : Hid (or3 a b c = b) := by show _ = _; unfold or3; rw [if_pos HA.out, if_neg hb]
        go_wp2_with fail
        go_ret
        exact ⟨ret_int HO.out.symm, rfl⟩
    · subst e
      have HA := Hid.intro ca
      have HB := Hid.intro cb
      have HO : Hid (or3 a b c = c) := by show _ = _; unfold or3; rw [if_pos ca, if_pos cb]
      clear ca cb
      by_cases hb : c = 0
      · have hb2 : (c == 0) = true := by simpa using hb
        have HB2 := Hid.intro hb
        clear hb
        go_wp2_with fail
        go_round
        case rel => exact ⟨3, rfl, .inr (.inr (.inr ⟨rfl, HA.out, HB.out, HB2.out⟩))⟩
        case measure => simp [intOf]
      · have hb2 : (c == 0) = false := by simpa using hb
        go_wp2_with fail
        go_ret
        exact ⟨ret_int HO.out.symm, rfl⟩
    · subst e
      have HO : Hid (or3 a b c = 0) := by show _ = _; unfold or3; rw [if_pos ca, if_pos cb, cc]
      clear ca cb cc
      go_wp2_with fail
      go_ret
      exact ⟨ret_int HO.out.symm, rfl⟩

set_option maxHeartbeats 4000000 in
set_option maxRecDepth 100000 in
theorem cmpWait_any (c d : Cpy) (la : Option Addr) (lc : Nat) (ld : Option Addr) (ldc : Nat) (w : World) :
    Calls Tryz.prog 62 #[.agg #[.string c.name, .string c.service, .int .i64 c.rank, .int .i64 c.born, .int .i64 c.room, .int .i64 c.hold, .string c.select, .slice la c.likes.length lc, .int .i64 c.apart, .string c.near, .string c.fixed, .string c.at_], .agg #[.string d.name, .string d.service, .int .i64 d.rank, .int .i64 d.born, .int .i64 d.room, .int .i64 d.hold, .string d.select, .slice ld d.likes.length ldc, .int .i64 d.apart, .string d.near, .string d.fixed, .string d.at_]] w fun e w' => e = .returned (.int .i64 (cmW c d)) ∧ Below w.heap.size w w' := by
  have HXa : Blk w.heap.size #[.string c.name, .string c.service, .int .i64 c.rank, .int .i64 c.born, .int .i64 c.room, .int .i64 c.hold, .string c.select, .slice la c.likes.length lc, .int .i64 c.apart, .string c.near, .string c.fixed, .string c.at_] 65 (w.alloc (Obj.cells #[.string c.name, .string c.service, .int .i64 c.rank, .int .i64 c.born, .int .i64 c.room, .int .i64 c.hold, .string c.select, .slice la c.likes.length lc, .int .i64 c.apart, .string c.near, .string c.fixed, .string c.at_] 65)) := Blk.alloc _ _ _
  have HY1 : Hid (Blk (w.heap.size + 1) #[.string d.name, .string d.service, .int .i64 d.rank, .int .i64 d.born, .int .i64 d.room, .int .i64 d.hold, .string d.select, .slice ld d.likes.length ldc, .int .i64 d.apart, .string d.near, .string d.fixed, .string d.at_] 65 ((w.alloc (Obj.cells #[.string c.name, .string c.service, .int .i64 c.rank, .int .i64 c.born, .int .i64 c.room, .int .i64 c.hold, .string c.select, .slice la c.likes.length lc, .int .i64 c.apart, .string c.near, .string c.fixed, .string c.at_] 65)).alloc (Obj.cells #[.string d.name, .string d.service, .int .i64 d.rank, .int .i64 d.born, .int .i64 d.room, .int .i64 d.hold, .string d.select, .slice ld d.likes.length ldc, .int .i64 d.apart, .string d.near, .string d.fixed, .string d.at_] 65))) := by
    have := Blk.alloc (w.alloc (Obj.cells #[.string c.name, .string c.service, .int .i64 c.rank, .int .i64 c.born, .int .i64 c.room, .int .i64 c.hold, .string c.select, .slice la c.likes.length lc, .int .i64 c.apart, .string c.near, .string c.fixed, .string c.at_] 65)) #[.string d.name, .string d.service, .int .i64 d.rank, .int .i64 d.born, .int .i64 d.room, .int .i64 d.hold, .string d.select, .slice ld d.likes.length ldc, .int .i64 d.apart, .string d.near, .string d.fixed, .string d.at_] 65
    show Blk _ _ _ _
    simpa using this
  have HX1 : Hid (Blk w.heap.size #[.string c.name, .string c.service, .int .i64 c.rank, .int .i64 c.born, .int .i64 c.room, .int .i64 c.hold, .string c.select, .slice la c.likes.length lc, .int .i64 c.apart, .string c.near, .string c.fixed, .string c.at_] 65 ((w.alloc (Obj.cells #[.string c.name, .string c.service, .int .i64 c.rank, .int .i64 c.born, .int .i64 c.room, .int .i64 c.hold, .string c.select, .slice la c.likes.length lc, .int .i64 c.apart, .string c.near, .string c.fixed, .string c.at_] 65)).alloc (Obj.cells #[.string d.name, .string d.service, .int .i64 d.rank, .int .i64 d.born, .int .i64 d.room, .int .i64 d.hold, .string d.select, .slice ld d.likes.length ldc, .int .i64 d.apart, .string d.near, .string d.fixed, .string d.at_] 65))) := HXa.below ((Below.refl _ _).alloc (Nat.le_refl _) _) HXa.lt
  have hB1 : Below w.heap.size w ((w.alloc (Obj.cells #[.string c.name, .string c.service, .int .i64 c.rank, .int .i64 c.born, .int .i64 c.room, .int .i64 c.hold, .string c.select, .slice la c.likes.length lc, .int .i64 c.apart, .string c.near, .string c.fixed, .string c.at_] 65)).alloc (Obj.cells #[.string d.name, .string d.service, .int .i64 d.rank, .int .i64 d.born, .int .i64 d.room, .int .i64 d.hold, .string d.select, .slice ld d.likes.length ldc, .int .i64 d.apart, .string d.near, .string d.fixed, .string d.at_] 65)) := by go_grown
  clear HXa
  go_enter Tryz.func62, Tryz.ntmps62
  go_upto_region 1 with fail
  generalize (w.alloc (Obj.cells #[.string c.name, .string c.service, .int .i64 c.rank, .int .i64 c.born, .int .i64 c.room, .int .i64 c.hold, .string c.select, .slice la c.likes.length lc, .int .i64 c.apart, .string c.near, .string c.fixed, .string c.at_] 65)).alloc (Obj.cells #[.string d.name, .string d.service, .int .i64 d.rank, .int .i64 d.born, .int .i64 d.room, .int .i64 d.hold, .string d.select, .slice ld d.likes.length ldc, .int .i64 d.apart, .string d.near, .string d.fixed, .string d.at_] 65) = w1 at *
  refine wp_region_held_drew (S := fun wy => Blk w.heap.size #[.string c.name, .string c.service, .int .i64 c.rank, .int .i64 c.born, .int .i64 c.room, .int .i64 c.hold, .string c.select, .slice la c.likes.length lc, .int .i64 c.apart, .string c.near, .string c.fixed, .string c.at_] 65 wy ∧ Blk (w.heap.size + 1) #[.string d.name, .string d.service, .int .i64 d.rank, .int .i64 d.born, .int .i64 d.room, .int .i64 d.hold, .string d.select, .slice ld d.likes.length ldc, .int .i64 d.apart, .string d.near, .string d.fixed, .string d.at_] 65 wy) (by kernel_rfl) ⟨HX1.out.drew, HY1.out.drew⟩ (fun hS => ?_)
  have hB2 : Below w.heap.size w w1.drew := hB1.drew
  clear HX1 HY1 hB1
  generalize w1.drew = w2 at *
  refine wpAnyH_take (i := 0) (oi := { dst := some 5, op := _, type := _, pos := _, after := _, guard := none }) (v := .pointer (some ⟨w.heap.size + 1, 2, none⟩)) rfl (by kernel_rfl) (by kernel_rfl) (by kernel_rfl) (fun _ _ _ h => h) (Or.inl ⟨by rfl, ?_⟩) hS ?_
  · intro wy hy
    clear hy
    go_simp
  simp only [Act.put, List.setIfInBounds_toArray, List.set_cons_zero, List.set_cons_succ]
  refine wpAnyH_take (i := 1) (oi := { dst := some 6, op := _, type := _, pos := _, after := _, guard := none }) (v := .int .i64 d.rank) rfl (by kernel_rfl) (by kernel_rfl) (by kernel_rfl) (fun _ _ _ h => h) (Or.inl ⟨by rfl, ?_⟩) hS ?_
  · intro wy hy
    have h0 : wy.cell? ⟨w.heap.size + 1, 2, none⟩ = some (.int .i64 d.rank) := hy.2.cell rfl
    clear hy
    go_simp
  simp only [Act.put, List.setIfInBounds_toArray, List.set_cons_zero, List.set_cons_succ]
  refine wpAnyH_take (i := 2) (oi := { dst := some 7, op := _, type := _, pos := _, after := _, guard := none }) (v := .pointer (some ⟨w.heap.size, 2, none⟩)) rfl (by kernel_rfl) (by kernel_rfl) (by kernel_rfl) (fun _ _ _ h => h) (Or.inl ⟨by rfl, ?_⟩) hS ?_
  · intro wy hy
    clear hy
    go_simp
  simp only [Act.put, List.setIfInBounds_toArray, List.set_cons_zero, List.set_cons_succ]
  refine wpAnyH_take (i := 3) (oi := { dst := some 8, op := _, type := _, pos := _, after := _, guard := none }) (v := .int .i64 c.rank) rfl (by kernel_rfl) (by kernel_rfl) (by kernel_rfl) (fun _ _ _ h => h) (Or.inl ⟨by rfl, ?_⟩) hS ?_
  · intro wy hy
    have h0 : wy.cell? ⟨w.heap.size, 2, none⟩ = some (.int .i64 c.rank) := hy.1.cell rfl
    clear hy
    go_simp
  simp only [Act.put, List.setIfInBounds_toArray, List.set_cons_zero, List.set_cons_succ]
  refine wpAnyH_take (i := 5) (oi := { dst := some 10, op := _, type := _, pos := _, after := _, guard := none }) (v := .pointer (some ⟨w.heap.size, 3, none⟩)) rfl (by kernel_rfl) (by kernel_rfl) (by kernel_rfl) (fun _ _ _ h => h) (Or.inl ⟨by rfl, ?_⟩) hS ?_
  · intro wy hy
    clear hy
    go_simp
  simp only [Act.put, List.setIfInBounds_toArray, List.set_cons_zero, List.set_cons_succ]
  refine wpAnyH_take (i := 6) (oi := { dst := some 11, op := _, type := _, pos := _, after := _, guard := none }) (v := .int .i64 c.born) rfl (by kernel_rfl) (by kernel_rfl) (by kernel_rfl) (fun _ _ _ h => h) (Or.inl ⟨by rfl, ?_⟩) hS ?_
  · intro wy hy
    have h0 : wy.cell? ⟨w.heap.size, 3, none⟩ = some (.int .i64 c.born) := hy.1.cell rfl
    clear hy
    go_simp
  simp only [Act.put, List.setIfInBounds_toArray, List.set_cons_zero, List.set_cons_succ]
  refine wpAnyH_take (i := 7) (oi := { dst := some 12, op := _, type := _, pos := _, after := _, guard := none }) (v := .pointer (some ⟨w.heap.size + 1, 3, none⟩)) rfl (by kernel_rfl) (by kernel_rfl) (by kernel_rfl) (fun _ _ _ h => h) (Or.inl ⟨by rfl, ?_⟩) hS ?_
  · intro wy hy
    clear hy
    go_simp
  simp only [Act.put, List.setIfInBounds_toArray, List.set_cons_zero, List.set_cons_succ]
  refine wpAnyH_take (i := 8) (oi := { dst := some 13, op := _, type := _, pos := _, after := _, guard := none }) (v := .int .i64 d.born) rfl (by kernel_rfl) (by kernel_rfl) (by kernel_rfl) (fun _ _ _ h => h) (Or.inl ⟨by rfl, ?_⟩) hS ?_
  · intro wy hy
    have h0 : wy.cell? ⟨w.heap.size + 1, 3, none⟩ = some (.int .i64 d.born) := hy.2.cell rfl
    clear hy
    go_simp
  simp only [Act.put, List.setIfInBounds_toArray, List.set_cons_zero, List.set_cons_succ]
  refine wpAnyH_take (i := 10) (oi := { dst := some 15, op := _, type := _, pos := _, after := _, guard := none }) (v := .pointer (some ⟨w.heap.size, 0, none⟩)) rfl (by kernel_rfl) (by kernel_rfl) (by kernel_rfl) (fun _ _ _ h => h) (Or.inl ⟨by rfl, ?_⟩) hS ?_
  · intro wy hy
    clear hy
    go_simp
  simp only [Act.put, List.setIfInBounds_toArray, List.set_cons_zero, List.set_cons_succ]
  refine wpAnyH_take (i := 11) (oi := { dst := some 16, op := _, type := _, pos := _, after := _, guard := none }) (v := .string c.name) rfl (by kernel_rfl) (by kernel_rfl) (by kernel_rfl) (fun _ _ _ h => h) (Or.inl ⟨by rfl, ?_⟩) hS ?_
  · intro wy hy
    have h0 : wy.cell? ⟨w.heap.size, 0, none⟩ = some (.string c.name) := hy.1.cell rfl
    clear hy
    go_simp
  simp only [Act.put, List.setIfInBounds_toArray, List.set_cons_zero, List.set_cons_succ]
  refine wpAnyH_take (i := 12) (oi := { dst := some 17, op := _, type := _, pos := _, after := _, guard := none }) (v := .pointer (some ⟨w.heap.size + 1, 0, none⟩)) rfl (by kernel_rfl) (by kernel_rfl) (by kernel_rfl) (fun _ _ _ h => h) (Or.inl ⟨by rfl, ?_⟩) hS ?_
  · intro wy hy
    clear hy
    go_simp
  simp only [Act.put, List.setIfInBounds_toArray, List.set_cons_zero, List.set_cons_succ]
  refine wpAnyH_take (i := 13) (oi := { dst := some 18, op := _, type := _, pos := _, after := _, guard := none }) (v := .string d.name) rfl (by kernel_rfl) (by kernel_rfl) (by kernel_rfl) (fun _ _ _ h => h) (Or.inl ⟨by rfl, ?_⟩) hS ?_
  · intro wy hy
    have h0 : wy.cell? ⟨w.heap.size + 1, 0, none⟩ = some (.string d.name) := hy.2.cell rfl
    clear hy
    go_simp
  simp only [Act.put, List.setIfInBounds_toArray, List.set_cons_zero, List.set_cons_succ]
  refine wpAnyH_ready (rs := [4]) (by kernel_rfl) (by simp) (AllReadyH.cons (o := { dst := some 9, op := _, type := _, pos := _, after := _, guard := none }) rfl (fun K hK => ?_) AllReadyH.nil)
  go_simp
  refine (cmpInt_any d.rank c.rank _).mono ?_
  rintro e w9 ⟨rfl, rfl⟩
  refine hK.out _ _ hS (fun hS => ?_)
  clear hK K
  refine wpAnyH_ready (rs := [9]) (by kernel_rfl) (by simp) (AllReadyH.cons (o := { dst := some 14, op := _, type := _, pos := _, after := _, guard := none }) rfl (fun K hK => ?_) AllReadyH.nil)
  go_simp
  refine (cmpInt_any c.born d.born _).mono ?_
  rintro e w9 ⟨rfl, rfl⟩
  refine hK.out _ _ hS (fun hS => ?_)
  clear hK K
  refine wpAnyH_ready (rs := [14]) (by kernel_rfl) (by simp) (AllReadyH.cons (o := { dst := some 19, op := _, type := _, pos := _, after := _, guard := none }) rfl (fun K hK => ?_) AllReadyH.nil)
  go_simp
  refine (strCmp_any c.name d.name _).mono ?_
  rintro e w9 ⟨rfl, rfl⟩
  refine hK.out _ _ hS (fun hS => ?_)
  clear hK K
  generalize hca : cmpI d.rank c.rank = ca at *
  generalize hcb : cmpI c.born d.born = cb at *
  generalize hcd : Lib.compareBytes c.name.data.toList d.name.data.toList = cd at *
  have HCA := Hid.intro hca
  have HCB := Hid.intro hcb
  have HCD := Hid.intro hcd
  clear hca hcb hcd
  refine wpAnyH_ready (rs := [15]) (by kernel_rfl) (by simp) (AllReadyH.cons (o := { dst := some 20, op := _, type := _, pos := _, after := _, guard := none }) rfl (fun K hK => ?_) AllReadyH.nil)
  go_simp
  have HS3 : Hid (Blk w9.heap.size #[.int .i64 ca, .int .i64 cb, .int .i64 cd] 3 (w9.alloc (Obj.cells #[.int .i64 ca, .int .i64 cb, .int .i64 cd] 3))) := Blk.alloc _ _ _
  have hB3 : Below w.heap.size w (w9.alloc (Obj.cells #[.int .i64 ca, .int .i64 cb, .int .i64 cd] 3)) := hB2.alloc hB2.size _
  refine hK.out _ _ ⟨hS.1.below ((Below.refl _ w9).alloc (Nat.le_refl _) _) hS.1.lt, hS.2.below ((Below.refl _ w9).alloc (Nat.le_refl _) _) hS.2.lt⟩ (fun hS => ?_)
  clear hK K hB2
  generalize w9.alloc (Obj.cells #[.int .i64 ca, .int .i64 cb, .int .i64 cd] 3) = w5 at *
  generalize w9.heap.size = g at *
  refine wpAnyH_ready (rs := [16]) (by kernel_rfl) (by simp) (AllReadyH.cons (o := { dst := some 21, op := _, type := _, pos := _, after := _, guard := none }) rfl (fun K hK => ?_) AllReadyH.nil)
  go_simp
  refine (cmpOr3_any ca cb cd g _ (HS3.out.cell rfl) (HS3.out.cell rfl) (HS3.out.cell rfl)).mono ?_
  rintro e w6 ⟨rfl, rfl⟩
  refine hK.out _ _ hS (fun hS => ?_)
  clear hK K
  refine wpAnyH_take (i := 17) (oi := { dst := some 4, op := _, type := _, pos := _, after := _, guard := none }) (v := .int .i64 (or3 ca cb cd)) rfl (by kernel_rfl) (by kernel_rfl) (by kernel_rfl) (fun _ _ _ h => h) (Or.inl ⟨by rfl, ?_⟩) hS ?_
  · intro wy hy
    clear hy
    go_simp
  simp only [Act.put, List.setIfInBounds_toArray, List.set_cons_zero, List.set_cons_succ]
  refine wpAnyH_done (by kernel_rfl) ?_ _
  clear hS
  go_wp2_with fail
  go_ret
  exact ⟨ret_int (by unfold cmW; rw [HCA.out, HCB.out, HCD.out]), hB3⟩

set_option maxHeartbeats 4000000 in
set_option maxRecDepth 100000 in
theorem cmpQ_any (x : Flt) (a3 : Option Addr) (c3 lo : Nat) (Wb : World) (Bc : Nat) (n3 : SliceC CpyC 12 lo Wb a3 x.copies) : CmpQ x a3 c3 Wb Bc (List.range x.copies.length) (cfQ x) := by
  intro w hq a ha b hb
  have hal := List.mem_range.1 ha
  have hbl := List.mem_range.1 hb
  obtain ⟨c, hc⟩ : ∃ c, x.copies[a]? = some c := ⟨x.copies[a], List.getElem?_eq_getElem hal⟩
  obtain ⟨d, hd⟩ : ∃ d, x.copies[b]? = some d := ⟨x.copies[b], List.getElem?_eq_getElem hbl⟩
  have HE : Hid (cfQ x a b = cmW c d) := by show _ = _; unfold cfQ; rw [hc, hd]
  obtain ⟨b3, o3, rfl, _, hb3, hcc⟩ := n3.at hc
  obtain ⟨b3', o3', e, _, _, hcd⟩ := n3.at hd
  cases e
  obtain ⟨la, lc, hr1⟩ := rngCpy hcc
  obtain ⟨ld, ldc, hr2⟩ := rngCpy hcd
  have HR1 : Hid (∀ wy, QK x (some ⟨b3, o3, none⟩) c3 Wb Bc wy → wy.rangeAt b3 (o3 + a * 12) [.string c.name, .string c.service, .int .i64 c.rank, .int .i64 c.born, .int .i64 c.room, .int .i64 c.hold, .string c.select, .slice la c.likes.length lc, .int .i64 c.apart, .string c.near, .string c.fixed, .string c.at_]) := fun wy hy j v hj => (hy.1.cell (p := ⟨b3, o3 + a * 12 + j, none⟩) hb3).trans (hr1 j v hj)
  have HR2 : Hid (∀ wy, QK x (some ⟨b3, o3, none⟩) c3 Wb Bc wy → wy.rangeAt b3 (o3 + b * 12) [.string d.name, .string d.service, .int .i64 d.rank, .int .i64 d.born, .int .i64 d.room, .int .i64 d.hold, .string d.select, .slice ld d.likes.length ldc, .int .i64 d.apart, .string d.near, .string d.fixed, .string d.at_]) := fun wy hy j v hj => (hy.1.cell (p := ⟨b3, o3 + b * 12 + j, none⟩) hb3).trans (hr2 j v hj)
  have HQ := Hid.intro hq
  clear hq ha hb hc hd hcc hcd hr1 hr2 n3
  go_enter Tryz.func61, Tryz.ntmps61
  go_upto_region 1 with fail
  refine wp_region_held_drew (S := fun wy => QK x (some ⟨b3, o3, none⟩) c3 Wb Bc wy) (by kernel_rfl) ⟨HQ.out.1.drew, HQ.out.2.drew⟩ (fun hS => ?_)
  have hB2 : Below w.heap.size w w.drew := (Below.refl _ _).drew
  clear HQ
  obtain ⟨w2, HW2⟩ : ∃ w2, Hid (w2 = w.drew) := ⟨_, rfl⟩
  rw [← HW2.out] at hS hB2 ⊢
  clear HW2
  refine wpAnyH_take (i := 0) (oi := { dst := some 6, op := _, type := _, pos := _, after := _, guard := none }) (v := .slice (some ⟨b3, o3, none⟩) x.copies.length c3) rfl (by kernel_rfl) (by kernel_rfl) (by kernel_rfl) (fun _ _ _ h => h) (Or.inl ⟨by rfl, ?_⟩) hS ?_
  · intro wy hy
    have h0 : wy.cell? ⟨Bc, 0, none⟩ = some (.slice (some ⟨b3, o3, none⟩) x.copies.length c3) := hy.2.cell rfl
    clear hy
    go_simp
  simp only [Act.put, List.setIfInBounds_toArray, List.set_cons_zero, List.set_cons_succ]
  refine wpAnyH_take (i := 1) (oi := { dst := some 7, op := _, type := _, pos := _, after := _, guard := none }) (v := .int .i64 ((a : Nat) : Int)) rfl (by kernel_rfl) (by kernel_rfl) (by kernel_rfl) (fun _ _ _ h => h) (Or.inl ⟨by rfl, ?_⟩) hS ?_
  · intro wy hy
    clear hy
    go_simp
  simp only [Act.put, List.setIfInBounds_toArray, List.set_cons_zero, List.set_cons_succ]
  refine wpAnyH_take (i := 2) (oi := { dst := some 8, op := _, type := _, pos := _, after := _, guard := none }) (v := .pointer (some ⟨b3, o3 + a * 12, none⟩)) rfl (by kernel_rfl) (by kernel_rfl) (by kernel_rfl) (fun _ _ _ h => h) (Or.inl ⟨by rfl, ?_⟩) hS ?_
  · intro wy hy
    clear hy
    (go_simp; try omega)
  simp only [Act.put, List.setIfInBounds_toArray, List.set_cons_zero, List.set_cons_succ]
  refine wpAnyH_take (i := 3) (oi := { dst := some 9, op := _, type := _, pos := _, after := _, guard := none }) (v := .agg #[.string c.name, .string c.service, .int .i64 c.rank, .int .i64 c.born, .int .i64 c.room, .int .i64 c.hold, .string c.select, .slice la c.likes.length lc, .int .i64 c.apart, .string c.near, .string c.fixed, .string c.at_]) rfl (by kernel_rfl) (by kernel_rfl) (by kernel_rfl) (fun _ _ _ h => h) (yieldsIf_load_mid (by rfl) _ _ rfl b3 (o3 + a * 12) rfl [.string c.name, .string c.service, .int .i64 c.rank, .int .i64 c.born, .int .i64 c.room, .int .i64 c.hold, .string c.select, .slice la c.likes.length lc, .int .i64 c.apart, .string c.near, .string c.fixed, .string c.at_] _ (fun _ h => HR1.out _ h) Tryz.underlying65 rfl isz_Cpy) hS ?_
  simp only [Act.put, List.setIfInBounds_toArray, List.set_cons_zero, List.set_cons_succ]
  refine wpAnyH_take (i := 4) (oi := { dst := some 10, op := _, type := _, pos := _, after := _, guard := none }) (v := .slice (some ⟨b3, o3, none⟩) x.copies.length c3) rfl (by kernel_rfl) (by kernel_rfl) (by kernel_rfl) (fun _ _ _ h => h) (Or.inl ⟨by rfl, ?_⟩) hS ?_
  · intro wy hy
    have h0 : wy.cell? ⟨Bc, 0, none⟩ = some (.slice (some ⟨b3, o3, none⟩) x.copies.length c3) := hy.2.cell rfl
    clear hy
    go_simp
  simp only [Act.put, List.setIfInBounds_toArray, List.set_cons_zero, List.set_cons_succ]
  refine wpAnyH_take (i := 5) (oi := { dst := some 11, op := _, type := _, pos := _, after := _, guard := none }) (v := .int .i64 ((b : Nat) : Int)) rfl (by kernel_rfl) (by kernel_rfl) (by kernel_rfl) (fun _ _ _ h => h) (Or.inl ⟨by rfl, ?_⟩) hS ?_
  · intro wy hy
    clear hy
    go_simp
  simp only [Act.put, List.setIfInBounds_toArray, List.set_cons_zero, List.set_cons_succ]
  refine wpAnyH_take (i := 6) (oi := { dst := some 12, op := _, type := _, pos := _, after := _, guard := none }) (v := .pointer (some ⟨b3, o3 + b * 12, none⟩)) rfl (by kernel_rfl) (by kernel_rfl) (by kernel_rfl) (fun _ _ _ h => h) (Or.inl ⟨by rfl, ?_⟩) hS ?_
  · intro wy hy
    clear hy
    (go_simp; try omega)
  simp only [Act.put, List.setIfInBounds_toArray, List.set_cons_zero, List.set_cons_succ]
  refine wpAnyH_take (i := 7) (oi := { dst := some 13, op := _, type := _, pos := _, after := _, guard := none }) (v := .agg #[.string d.name, .string d.service, .int .i64 d.rank, .int .i64 d.born, .int .i64 d.room, .int .i64 d.hold, .string d.select, .slice ld d.likes.length ldc, .int .i64 d.apart, .string d.near, .string d.fixed, .string d.at_]) rfl (by kernel_rfl) (by kernel_rfl) (by kernel_rfl) (fun _ _ _ h => h) (yieldsIf_load_mid (by rfl) _ _ rfl b3 (o3 + b * 12) rfl [.string d.name, .string d.service, .int .i64 d.rank, .int .i64 d.born, .int .i64 d.room, .int .i64 d.hold, .string d.select, .slice ld d.likes.length ldc, .int .i64 d.apart, .string d.near, .string d.fixed, .string d.at_] _ (fun _ h => HR2.out _ h) Tryz.underlying65 rfl isz_Cpy) hS ?_
  simp only [Act.put, List.setIfInBounds_toArray, List.set_cons_zero, List.set_cons_succ]
  refine wpAnyH_ready (rs := [8]) (by kernel_rfl) (by simp) (AllReadyH.cons (o := { dst := some 14, op := _, type := _, pos := _, after := _, guard := none }) rfl (fun K hK => ?_) AllReadyH.nil)
  go_simp
  refine (cmpWait_any c d la lc ld ldc _).mono ?_
  rintro e w3 ⟨rfl, hb3⟩
  have hB3 := hB2.trans (hb3.mono hB2.size)
  refine hK.out _ _ ⟨hS.1.trans (hb3.mono hS.1.size), hS.2.below hb3 hS.2.lt⟩ (fun hS => ?_)
  clear hK K
  refine wpAnyH_take (i := 9) (oi := { dst := some 5, op := _, type := _, pos := _, after := _, guard := none }) (v := .int .i64 (cmW c d)) rfl (by kernel_rfl) (by kernel_rfl) (by kernel_rfl) (fun _ _ _ h => h) (Or.inl ⟨by rfl, ?_⟩) hS ?_
  · intro wy hy
    clear hy
    go_simp
  simp only [Act.put, List.setIfInBounds_toArray, List.set_cons_zero, List.set_cons_succ]
  refine wpAnyH_done (by kernel_rfl) ?_ _
  clear hS
  go_wp2_with fail
  go_ret
  exact ⟨ret_int HE.out.symm, hB3⟩

end Go.Proofs.YtggbhggnemlpnaaGreat
