/-
  Several texts in one: ParE, Tok.
-/
import Derived.Test.YthjicahpfhjfdaaGreatDoorJ3
import Derived.BigQuiet
import Derived.Test.YthjicahpfhjfdaaGreatDoorPure
namespace Go.Proofs.YthjicahpfhjfdaaGreatDoor
open Go.RowKit

/-- the height of a pair -/
def tops (a b : P.Tr) : Int := ((max (P.tall a) (P.tall b) + 1 : Nat) : Int)

/-- a tree as the program holds it -/
def val : P.Tr → Value
  | .nil => .nilIface
  | .node b _ p l r =>
    if b = 0 then .iface 89 (.agg #[])
    else if b = 1 then .iface 124 (.agg #[.string p.1])
    else if b = 2 then .iface 126 (.agg #[.string p.1, .string p.2])
    else if b = 3 then .iface 147 (.agg #[val l, .int .i64 ((P.tall l : Int) + 1)])
    else if b = 4 then .iface 152 (.agg #[val l, val r, .int .i64 (tops l r)])
    else .iface 153 (.agg #[val l, val r, .int .i64 (tops l r)])

theorem val_non : val P.nonT = .iface 89 (.agg #[]) := rfl
theorem val_nm (n : ByteArray) : val (P.nmT n) = .iface 124 (.agg #[.string n]) := rfl
theorem val_vl (n v : ByteArray) : val (P.vlT n v) = .iface 126 (.agg #[.string n, .string v]) := rfl
theorem val_nt (k : P.Tr) : val (P.ntT k) = .iface 147 (.agg #[val k, .int .i64 ((P.tall k : Int) + 1)]) := rfl
theorem val_an (a b : P.Tr) : val (P.anT a b) = .iface 152 (.agg #[val a, val b, .int .i64 (tops a b)]) := rfl
theorem val_or (a b : P.Tr) : val (P.orT a b) = .iface 153 (.agg #[val a, val b, .int .i64 (tops a b)]) := rfl

theorem leafTall_any (w : World) : Calls Tryz.prog 104 #[.agg #[]] w fun e w' => e = .returned (.int .i64 0) ∧ Below w.heap.size w w' := by
  go_enter Tryz.func104, Tryz.ntmps104
  go_wp2
  go_ret
  exact ⟨rfl, by go_grown⟩

theorem oppTall_any (x : Value) (h : Int) (w : World) : Calls Tryz.prog 137 #[.agg #[x, .int .i64 h]] w fun e w' => e = .returned (.int .i64 h) ∧ Below w.heap.size w w' := by
  go_enter Tryz.func137, Tryz.ntmps137
  go_wp2
  go_ret
  exact ⟨rfl, by go_grown⟩

theorem pairTall_any (x y : Value) (h : Int) (w : World) : Calls Tryz.prog 139 #[.agg #[x, y, .int .i64 h]] w fun e w' => e = .returned (.int .i64 h) ∧ Below w.heap.size w w' := by
  go_enter Tryz.func139, Tryz.ntmps139
  go_wp2
  go_ret
  exact ⟨rfl, by go_grown⟩

/-- this is the name by which the method 'tall' is called -/
structure TallName (name : String) : Prop where
  c0 : ∀ w, (callMethod (.iface 89 (.agg #[])) name #[]).run Tryz.prog w = .ok (.enter 104 #[.agg #[]]) w
  c1 : ∀ n w, (callMethod (.iface 124 (.agg #[.string n])) name #[]).run Tryz.prog w = .ok (.enter 104 #[.agg #[]]) w
  c2 : ∀ n v w, (callMethod (.iface 126 (.agg #[.string n, .string v])) name #[]).run Tryz.prog w = .ok (.enter 104 #[.agg #[]]) w
  c3 : ∀ x h w, (callMethod (.iface 147 (.agg #[x, .int .i64 h])) name #[]).run Tryz.prog w = .ok (.enter 137 #[.agg #[x, .int .i64 h]]) w
  c4 : ∀ x y h w, (callMethod (.iface 152 (.agg #[x, y, .int .i64 h])) name #[]).run Tryz.prog w = .ok (.enter 139 #[.agg #[x, y, .int .i64 h]]) w
  c5 : ∀ x y h w, (callMethod (.iface 153 (.agg #[x, y, .int .i64 h])) name #[]).run Tryz.prog w = .ok (.enter 139 #[.agg #[x, y, .int .i64 h]]) w

theorem val_iface {t : P.Tr} (hw : P.wf t) : ∃ ty v, val t = .iface ty v := by
  rcases P.wf_cases hw with rfl | ⟨n, rfl⟩ | ⟨n, v, rfl⟩ | ⟨k, hk, rfl⟩ | ⟨a, b, ha, hb, rfl⟩ | ⟨a, b, ha, hb, rfl⟩
  · exact ⟨_, _, val_non⟩
  · exact ⟨_, _, val_nm _⟩
  · exact ⟨_, _, val_vl _ _⟩
  · exact ⟨_, _, val_nt _⟩
  · exact ⟨_, _, val_an _ _⟩
  · exact ⟨_, _, val_or _ _⟩

theorem tall_meth {name : String} (H : TallName name) {t : P.Tr} (hw : P.wf t) {x : Value} (hx : Hid (val t = x)) (w : World) : Meth Tryz.prog x name #[] w fun u w' => u = .int .i64 (P.tall t : Int) ∧ Below w.heap.size w w' := by
  rw [← hx.out]
  rcases P.wf_cases hw with rfl | ⟨n, rfl⟩ | ⟨n, v, rfl⟩ | ⟨k, hk, rfl⟩ | ⟨a, b, ha, hb, rfl⟩ | ⟨a, b, ha, hb, rfl⟩
  · exact ⟨_, _, H.c0 w, (leafTall_any w).mono fun e w' ⟨he, hb⟩ => ⟨_, he, rfl, hb⟩⟩
  · exact ⟨_, _, H.c1 n w, (leafTall_any w).mono fun e w' ⟨he, hb⟩ => ⟨_, he, rfl, hb⟩⟩
  · exact ⟨_, _, H.c2 n v w, (leafTall_any w).mono fun e w' ⟨he, hb⟩ => ⟨_, he, rfl, hb⟩⟩
  · refine ⟨_, _, H.c3 _ _ w, (oppTall_any _ _ w).mono fun e w' ⟨he, hb⟩ => ⟨_, he, ?_, hb⟩⟩
    rw [P.tall_nt]; congr 1
  · exact ⟨_, _, H.c4 _ _ _ w, (pairTall_any _ _ _ w).mono fun e w' ⟨he, hb⟩ => ⟨_, he, rfl, hb⟩⟩
  · exact ⟨_, _, H.c5 _ _ _ w, (pairTall_any _ _ _ w).mono fun e w' ⟨he, hb⟩ => ⟨_, he, rfl, hb⟩⟩

set_option maxHeartbeats 1000000 in
set_option maxRecDepth 100000 in
theorem negate_any (t : P.Tr) (hw : P.wf t) (ht : P.tall t ≤ 1000) (w : World) :
    Calls Tryz.prog 53 #[val t] w fun e w' => e = .returned (val (P.ntT t)) ∧ Below w.heap.size w w' := by
  rw [val_nt]
  obtain ⟨ty, v, hv⟩ := val_iface hw
  rw [hv]
  have HV : Hid (val t = .iface ty v) := hv
  clear hv
  go_enter Tryz.func53, Tryz.ntmps53
  go_wp2_with (refine wpList_meth rfl (.tmp 4) _ #[] #[] rfl _ rfl #[] (map_none _) _ (tall_meth ⟨fun _ => by kernel_rfl, fun _ _ => by kernel_rfl, fun _ _ _ => by kernel_rfl, fun _ _ _ => by kernel_rfl, fun _ _ _ _ => by kernel_rfl, fun _ _ _ _ => by kernel_rfl⟩ hw HV _) ?_; rintro u w1 ⟨rfl, hb⟩)
  go_ret
  exact ⟨rfl, hb⟩

theorem pair_cells {w w1 w2 : World} (hb : Below (w.alloc (Obj.cells #[Value.nilIface, Value.nilIface, Value.int IntKind.i64 0] 149)).heap.size (w.alloc (Obj.cells #[Value.nilIface, Value.nilIface, Value.int IntKind.i64 0] 149)) w1)
    (hb2 : Below w1.heap.size w1 w2) : w2.cell? ⟨w.heap.size, 0, none⟩ = some .nilIface ∧ w2.cell? ⟨w.heap.size, 1, none⟩ = some .nilIface ∧ w2.cell? ⟨w.heap.size, 2, none⟩ = some (.int .i64 0) ∧
      w2.frozen? ⟨w.heap.size, 0, none⟩ = false ∧ w2.frozen? ⟨w.heap.size, 1, none⟩ = false ∧ w2.frozen? ⟨w.heap.size, 2, none⟩ = false := by
  have B := hb.trans (hb2.mono hb.size)
  have hlt : w.heap.size < (w.alloc (Obj.cells #[Value.nilIface, Value.nilIface, Value.int IntKind.i64 0] 149)).heap.size := by simp
  refine ⟨?_, ?_, ?_, ?_, ?_, ?_⟩
  · rw [B.cell (p := ⟨w.heap.size, 0, none⟩) hlt]; simp
  · rw [B.cell (p := ⟨w.heap.size, 1, none⟩) hlt]; simp
  · rw [B.cell (p := ⟨w.heap.size, 2, none⟩) hlt]; simp
  · rw [B.frozen (p := ⟨w.heap.size, 0, none⟩) hlt]; simp
  · rw [B.frozen (p := ⟨w.heap.size, 1, none⟩) hlt]; simp
  · rw [B.frozen (p := ⟨w.heap.size, 2, none⟩) hlt]; simp

set_option maxHeartbeats 1000000 in
set_option maxRecDepth 100000 in
theorem pairOf_any (s t : P.Tr) (hs : P.wf s) (ht : P.wf t) (hs' : P.tall s ≤ 1000) (ht' : P.tall t ≤ 1000) (w : World) :
    Calls Tryz.prog 68 #[val s, val t] w fun e w' => e = .returned (.agg #[val s, val t, .int .i64 (tops s t)]) ∧ Below w.heap.size w w' := by
  obtain ⟨ty, v, hv⟩ := val_iface hs
  obtain ⟨ty', v', hv'⟩ := val_iface ht
  rw [hv, hv']
  have HV : Hid (val s = .iface ty v) := hv
  have HV' : Hid (val t = .iface ty' v') := hv'
  clear hv hv'
  have e : Hid (tops s t = max ((P.tall s : Nat) : Int) ((P.tall t : Nat) : Int) + 1) := by show _ = _; unfold tops; omega
  by_cases hlt : P.tall s < P.tall t
  all_goals
    go_enter Tryz.func68, Tryz.ntmps68
    go_wp2_with (first
      | (refine wpList_meth rfl (.tmp 7) _ #[] #[] rfl _ rfl #[] (map_none _) _ (tall_meth ⟨fun _ => by kernel_rfl, fun _ _ => by kernel_rfl, fun _ _ _ => by kernel_rfl, fun _ _ _ => by kernel_rfl, fun _ _ _ _ => by kernel_rfl, fun _ _ _ _ => by kernel_rfl⟩ hs HV _) ?_; rintro u w1 ⟨rfl, hb⟩)
      | (refine wpList_meth rfl (.tmp 9) _ #[] #[] rfl _ rfl #[] (map_none _) _ (tall_meth ⟨fun _ => by kernel_rfl, fun _ _ => by kernel_rfl, fun _ _ _ => by kernel_rfl, fun _ _ _ => by kernel_rfl, fun _ _ _ _ => by kernel_rfl, fun _ _ _ _ => by kernel_rfl⟩ ht HV' _) ?_; rintro u w2 ⟨rfl, hb2⟩; obtain ⟨c0, c1, c2, f0, f1, f2⟩ := pair_cells hb hb2))
    have hB : Below w.heap.size w w2 := ((Below.refl _ w).alloc (Nat.le_refl _) _).trans ((hb.trans (hb2.mono hb.size)).mono (by simp))
    refine bodyPost_ret (v := .agg #[.iface ty v, .iface ty' v', .int .i64 (tops s t)]) ?_ rfl ⟨rfl, ?_⟩
    · first
        | (rw [show tops s t = (P.tall t : Int) + 1 by rw [e.out]; omega]; simp [results, Tryz.results68, go_sem, c0, c1, c2]; done)
        | (rw [show tops s t = (P.tall s : Int) + 1 by rw [e.out]; omega]; simp [results, Tryz.results68, go_sem, c0, c1, c2]; done)
    · exact ((hB.setCell (Nat.le_refl _) _).setCell (Nat.le_refl _) _).setCell (Nat.le_refl _) _

set_option maxHeartbeats 400000 in
theorem joinBoth_any (s t : P.Tr) (hs : P.wf s) (ht : P.wf t) (hs' : P.tall s ≤ 1000) (ht' : P.tall t ≤ 1000) (w : World) :
    Calls Tryz.prog 54 #[val s, val t] w fun e w' => e = .returned (val (P.anT s t)) ∧ Below w.heap.size w w' := by
  rw [val_an]
  obtain ⟨ty, v, hv⟩ := val_iface hs
  obtain ⟨ty', v', hv'⟩ := val_iface ht
  have c := fun w => pairOf_any s t hs ht hs' ht' w
  rw [hv, hv'] at c
  rw [hv, hv']
  have C : Hid _ := c
  clear c hv hv'
  go_enter Tryz.func54, Tryz.ntmps54
  go_wp2_with fail
  refine (C.out _).mono ?_
  rintro e w1 ⟨rfl, hb⟩
  go_wp2_with fail
  go_ret
  exact ⟨rfl, hb⟩

set_option maxHeartbeats 400000 in
theorem joinEither_any (s t : P.Tr) (hs : P.wf s) (ht : P.wf t) (hs' : P.tall s ≤ 1000) (ht' : P.tall t ≤ 1000) (w : World) :
    Calls Tryz.prog 55 #[val s, val t] w fun e w' => e = .returned (val (P.orT s t)) ∧ Below w.heap.size w w' := by
  rw [val_or]
  obtain ⟨ty, v, hv⟩ := val_iface hs
  obtain ⟨ty', v', hv'⟩ := val_iface ht
  have c := fun w => pairOf_any s t hs ht hs' ht' w
  rw [hv, hv'] at c
  rw [hv, hv']
  have C : Hid _ := c
  clear c hv hv'
  go_enter Tryz.func55, Tryz.ntmps55
  go_wp2_with fail
  refine (C.out _).mono ?_
  rintro e w1 ⟨rfl, hb⟩
  go_wp2_with fail
  go_ret
  exact ⟨rfl, hb⟩

end Go.Proofs.YthjicahpfhjfdaaGreatDoor

namespace Go.Proofs.YthjicahpfhjfdaaGreatDoor.P

/-- a letter ahead of a text whose tokens are known -/
def onto (c : UInt8) : List UInt8 → List (List UInt8) → List (List UInt8)
  | d :: _, h :: t => if letter d = true then (c :: h) :: t else [c] :: h :: t
  | [], ts => [c] :: ts
  | _ :: _, [] => [[c]]

/-- the tokens of a text: runs of letters, single other bytes; blanks part them -/
def toks : List UInt8 → List (List UInt8)
  | [] => []
  | c :: r => if c = 32 then toks r else if letter c = true then onto c r (toks r) else [c] :: toks r

theorem toks_nil : toks [] = [] := rfl
theorem toks_cons (c : UInt8) (r : List UInt8) : toks (c :: r) = if c = 32 then toks r else if letter c = true then onto c r (toks r) else [c] :: toks r := rfl
theorem toks_blank (r : List UInt8) : toks (32 :: r) = toks r := by rw [toks_cons, if_pos rfl]
theorem toks_sign {c : UInt8} (r : List UInt8) (h : c ≠ 32) (hl : letter c = false) : toks (c :: r) = [c] :: toks r := by rw [toks_cons, if_neg h]; simp [hl]
theorem letter_blank : letter 32 = false := by decide

/-- no letter comes next -/
def stops : List UInt8 → Prop
  | [] => True
  | d :: _ => letter d = false

theorem toks_one {c : UInt8} {r : List UInt8} (hc : letter c = true) (hr : stops r) : toks (c :: r) = [c] :: toks r := by
  have h32 : c ≠ 32 := fun e => by rw [e, letter_blank] at hc; cases hc
  rw [toks_cons, if_neg h32, if_pos hc]
  cases r with
  | nil => rfl
  | cons d t =>
    have hd : letter d = false := hr
    cases h : toks (d :: t) with
    | nil => rfl
    | cons a b => simp [onto, hd]

theorem toks_run : ∀ (l : List UInt8) (r : List UInt8), l ≠ [] → (∀ c ∈ l, letter c = true) → stops r → toks (l ++ r) = l :: toks r
  | [], _, h, _, _ => absurd rfl h
  | [c], r, _, hl, hr => toks_one (hl c (by simp)) hr
  | c :: d :: l, r, _, hl, hr => by
    have ih := toks_run (d :: l) r (by simp) (fun x hx => hl x (by simp [hx])) hr
    have hc := hl c (by simp)
    have hd := hl d (by simp)
    have h32 : c ≠ 32 := fun e => by rw [e, letter_blank] at hc; cases hc
    show toks (c :: (d :: l ++ r)) = _
    rw [toks_cons, if_neg h32, if_pos hc, ih]
    simp [onto, hd]

def bts (l : List UInt8) : ByteArray := ⟨l.toArray⟩

/-- a token that is a name -/
def nmB (t : List UInt8) : Bool := decide (1 ≤ t.length ∧ t.length ≤ 20) && t.all letter

theorem nmB_eq (t : List UInt8) : nameOk (bts t) = nmB t := by
  unfold nameOk nmB bts
  simp [ByteArray.size]

/-- a sign taken -/
def tk (s : UInt8) : List (List UInt8) → Option (List (List UInt8))
  | [] => none
  | t :: r => if t = [s] then some r else none

/-- a name taken -/
def nm : List (List UInt8) → Option (List UInt8 × List (List UInt8))
  | [] => none
  | t :: r => if nmB t = true then some (t, r) else none

def markT (l : List (List UInt8)) : Option (Tr × List (List UInt8)) :=
  match nm l with
  | none => none
  | some (n, r) => match tk 61 r with
    | none => some (nmT (bts n), r)
    | some r' => match nm r' with
      | none => none
      | some (v, r'') => some (vlT (bts n) (bts v), r'')

/-- what is read: 0 a single part, 1 parts joined by and, 2 by or; 3 and 4 what follows the first of these -/
def rd : Nat → Nat → Tr → List (List UInt8) → Option (Tr × List (List UInt8))
  | 0, _, _, _ => none
  | f + 1, 0, _, l => match tk 33 l with
    | some r => match rd f 0 nonT r with
      | none => none
      | some (y, r') => some (ntT y, r')
    | none => match tk 40 l with
      | some r => match rd f 2 nonT r with
        | none => none
        | some (y, r') => match tk 41 r' with
          | none => none
          | some r'' => some (y, r'')
      | none => markT l
  | f + 1, 1, _, l => match rd f 0 nonT l with
    | none => none
    | some (y, r) => rd f 3 y r
  | f + 1, 2, _, l => match rd f 1 nonT l with
    | none => none
    | some (y, r) => rd f 4 y r
  | f + 1, 3, x, l => match tk 38 l with
    | none => some (x, l)
    | some r => match rd f 0 nonT r with
      | none => none
      | some (y, r') => rd f 3 (anT x y) r'
  | f + 1, _ + 4, x, l => match tk 124 l with
    | none => some (x, l)
    | some r => match rd f 1 nonT r with
      | none => none
      | some (y, r') => rd f 4 (orT x y) r'

theorem tk_some {s : UInt8} {l r : List (List UInt8)} (h : tk s l = some r) : l = [s] :: r := by
  cases l with
  | nil => cases h
  | cons t q =>
    have h' : (if t = [s] then some q else none) = some r := h
    split at h'
    · next e => injection h' with h'; rw [e, h']
    · cases h'

theorem nm_some {l r : List (List UInt8)} {n : List UInt8} (h : nm l = some (n, r)) : l = n :: r ∧ nmB n = true := by
  cases l with
  | nil => cases h
  | cons t q =>
    have h' : (if nmB t = true then some (t, q) else none) = some (n, r) := h
    split at h'
    · next e => injection h' with h'; injection h' with h1 h2; subst h1 h2; exact ⟨rfl, e⟩
    · cases h'

theorem tk_len {s : UInt8} {l r : List (List UInt8)} (h : tk s l = some r) : r.length + 1 = l.length := by rw [tk_some h]; rfl

/-- all of what is read is fine, small, and takes tokens -/
def Rd (x : Tr) (l : List (List UInt8)) (m : Nat) (y : Tr) (r : List (List UInt8)) : Prop :=
  r.length ≤ l.length ∧ (m ≤ 2 → r.length < l.length) ∧ wf y ∧ good y ∧ count y + r.length ≤ l.length + (if m ≤ 2 then 0 else count x) ∧ tall y < count y

theorem mark_rd {l r : List (List UInt8)} {y : Tr} (h : markT l = some (y, r)) (x : Tr) (m : Nat) (hm : m ≤ 2) : Rd x l m y r := by
  unfold markT at h
  split at h
  · cases h
  · next n q hn =>
    obtain ⟨e1, e2⟩ := nm_some hn
    have p1 := nameOk_pos ((nmB_eq n).trans e2)
    split at h
    · injection h with h; injection h with h1 h2; subst h1 h2
      subst e1
      refine ⟨by simp, fun _ => by simp, wf_nm _, by rw [good_nm]; exact p1, ?_, ?_⟩
      · rw [count_nm, if_pos hm]; simp; omega
      · rw [tall_nm, count_nm]; omega
    · next q' hq =>
      split at h
      · cases h
      · next v r' hv =>
        obtain ⟨e3, e4⟩ := nm_some hv
        have p2 := nameOk_pos ((nmB_eq v).trans e4)
        injection h with h; injection h with h1 h2; subst h1 h2
        have := tk_some hq
        subst this
        subst e1 e3
        refine ⟨by simp; omega, fun _ => by simp; omega, wf_vl _ _, by rw [good_vl]; exact ⟨p1, p2⟩, ?_, ?_⟩
        · rw [count_vl, if_pos hm]; simp; omega
        · rw [tall_vl, count_vl]; omega

theorem rd_rd : ∀ (f m : Nat) (x : Tr) (l : List (List UInt8)) (y : Tr) (r : List (List UInt8)), (2 < m → wf x ∧ good x ∧ tall x < count x) → rd f m x l = some (y, r) → Rd x l m y r
  | 0, m, x, l, y, r, _, h => by cases m <;> cases h
  | f + 1, 0, x, l, y, r, _, h => by
    unfold rd at h
    split at h
    · next q hq =>
      split at h
      · cases h
      · next z r' hz =>
        injection h with h; injection h with h1 h2; subst h1 h2
        obtain ⟨a1, a2, a3, a4, a5, a6⟩ := rd_rd f 0 _ _ _ _ (fun h => by omega) hz
        have := tk_len hq
        have a2 := a2 (by omega)
        rw [if_pos (by omega)] at a5
        refine ⟨by omega, fun _ => by omega, wf_nt a3, by rw [good_nt]; exact a4, ?_, ?_⟩
        · rw [count_nt, if_pos (by omega)]; omega
        · rw [tall_nt, count_nt]; omega
    · split at h
      · next q hq =>
        split at h
        · cases h
        · next z r' hz =>
          split at h
          · cases h
          · next r'' hr =>
            injection h with h; injection h with h1 h2; subst h1 h2
            obtain ⟨a1, a2, a3, a4, a5, a6⟩ := rd_rd f 2 _ _ _ _ (fun h => by omega) hz
            have := tk_len hq
            have := tk_len hr
            have a2 := a2 (by omega)
            rw [if_pos (by omega)] at a5
            exact ⟨by omega, fun _ => by omega, a3, a4, by rw [if_pos (by omega)]; omega, a6⟩
      · exact mark_rd h x 0 (by omega)
  | f + 1, 1, x, l, y, r, _, h => by
    unfold rd at h
    split at h
    · cases h
    · next z q hz =>
      obtain ⟨a1, a2, a3, a4, a5, a6⟩ := rd_rd f 0 _ _ _ _ (fun h => by omega) hz
      obtain ⟨b1, b2, b3, b4, b5, b6⟩ := rd_rd f 3 _ _ _ _ (fun _ => ⟨a3, a4, a6⟩) h
      have a2 := a2 (by omega)
      rw [if_pos (by omega)] at a5
      rw [if_neg (by omega)] at b5
      exact ⟨by omega, fun _ => by omega, b3, b4, by rw [if_pos (by omega)]; omega, b6⟩
  | f + 1, 2, x, l, y, r, _, h => by
    unfold rd at h
    split at h
    · cases h
    · next z q hz =>
      obtain ⟨a1, a2, a3, a4, a5, a6⟩ := rd_rd f 1 _ _ _ _ (fun h => by omega) hz
      obtain ⟨b1, b2, b3, b4, b5, b6⟩ := rd_rd f 4 _ _ _ _ (fun _ => ⟨a3, a4, a6⟩) h
      have a2 := a2 (by omega)
      rw [if_pos (by omega)] at a5
      rw [if_neg (by omega)] at b5
      exact ⟨by omega, fun _ => by omega, b3, b4, by rw [if_pos (by omega)]; omega, b6⟩
  | f + 1, 3, x, l, y, r, hx, h => by
    obtain ⟨x1, x2, x3⟩ := hx (by omega)
    unfold rd at h
    split at h
    · injection h with h; injection h with h1 h2; subst h1 h2
      exact ⟨Nat.le_refl _, fun h => by omega, x1, x2, by rw [if_neg (by omega)]; omega, x3⟩
    · next q hq =>
      split at h
      · cases h
      · next z r' hz =>
        obtain ⟨a1, a2, a3, a4, a5, a6⟩ := rd_rd f 0 _ _ _ _ (fun h => by omega) hz
        obtain ⟨b1, b2, b3, b4, b5, b6⟩ := rd_rd f 3 _ _ _ _ (fun _ => ⟨wf_an x1 a3, by rw [good_an]; exact ⟨x2, a4⟩, by rw [tall_an, count_an]; omega⟩) h
        have := tk_len hq
        have a2 := a2 (by omega)
        rw [if_pos (by omega)] at a5
        rw [if_neg (by omega), count_an] at b5
        exact ⟨by omega, fun h => by omega, b3, b4, by rw [if_neg (by omega)]; omega, b6⟩
  | f + 1, m + 4, x, l, y, r, hx, h => by
    obtain ⟨x1, x2, x3⟩ := hx (by omega)
    unfold rd at h
    split at h
    · injection h with h; injection h with h1 h2; subst h1 h2
      exact ⟨Nat.le_refl _, fun h => by omega, x1, x2, by rw [if_neg (by omega)]; omega, x3⟩
    · next q hq =>
      split at h
      · cases h
      · next z r' hz =>
        obtain ⟨a1, a2, a3, a4, a5, a6⟩ := rd_rd f 1 _ _ _ _ (fun h => by omega) hz
        obtain ⟨b1, b2, b3, b4, b5, b6⟩ := rd_rd f 4 _ _ _ _ (fun _ => ⟨wf_or x1 a3, by rw [good_or]; exact ⟨x2, a4⟩, by rw [tall_or, count_or]; omega⟩) h
        have := tk_len hq
        have a2 := a2 (by omega)
        rw [if_pos (by omega)] at a5
        rw [if_neg (by omega), count_or] at b5
        exact ⟨by omega, fun h => by omega, b3, b4, by rw [if_neg (by omega)]; omega, b6⟩

end Go.Proofs.YthjicahpfhjfdaaGreatDoor.P
