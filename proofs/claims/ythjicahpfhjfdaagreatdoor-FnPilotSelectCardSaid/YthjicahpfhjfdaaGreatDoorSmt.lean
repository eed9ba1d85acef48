/-
  Walks: the specification asks whether marks are as a tree of nodes asks (made by mksmt.py).
-/
import Derived.Test.YthjicahpfhjfdaaGreatDoorJ18
import Derived.Test.YthjicahpfhjfdaaGreatDoorJ31
import Derived.Test.YthjicahpfhjfdaaGreatDoorJ0
import Derived.Test.YthjicahpfhjfdaaGreatDoorJ32
namespace Go.Proofs.YthjicahpfhjfdaaGreatDoor
open Go.RowKit

/-- a mark is as a leaf asks -/
def hitM (one : Bool) (nm vl : ByteArray) (m : ByteArray) : Bool := isMk m && (decide (mName m = nm) && (one || decide (mVal m = vl)))
/-- one of the first marks is -/
def hitTo (ms : List ByteArray) (one : Bool) (nm vl : ByteArray) : Nat → Bool
  | 0 => false
  | k + 1 => hitTo ms one nm vl k || (match ms[k]? with | some m => hitM one nm vl m | none => false)
def hitS (ms : List ByteArray) (one : Bool) (nm vl : ByteArray) : Bool := hitTo ms one nm vl ms.length
/-- marks are as a tree asks -/
def meetsS (ms : List ByteArray) : P.Tr → Bool
  | .nil => true
  | .node b _ p l r =>
    if b = 0 then true
    else if b = 1 then hitS ms true p.1 ⟨#[]⟩
    else if b = 2 then hitS ms false p.1 p.2
    else if b = 3 then !meetsS ms l
    else if b = 4 then meetsS ms l && meetsS ms r
    else meetsS ms l || meetsS ms r

theorem hitTo_true {ms : List ByteArray} {one : Bool} {nm vl : ByteArray} {k : Nat} (h : hitTo ms one nm vl k = true) : ∀ n, k ≤ n → hitTo ms one nm vl n = true
  | 0, hn => by have : k = 0 := by omega
                subst this; exact h
  | n + 1, hn => by
    by_cases e : k = n + 1
    · subst e; exact h
    · rw [hitTo, hitTo_true h n (by omega)]; rfl
theorem hitTo_step {ms : List ByteArray} {one : Bool} {nm vl : ByteArray} {k : Nat} {m : ByteArray} (hm : ms[k]? = some m) : hitTo ms one nm vl (k + 1) = (hitTo ms one nm vl k || hitM one nm vl m) := by
  rw [hitTo, hm]

/-- what l1Meets promises of a tree -/
def MeetOk (ns : List P.Nd) (out : List (List Nat)) (n cn co go g : Nat) (ms : List ByteArray) (am : Option Addr) (cm : Nat) (k : Nat) (t : P.Tr) : Prop :=
  ∀ (w : World), Nodes0 w g ns → KidsIn w go out → SliceC StrC 1 0 w am ms →
    Calls Tryz.prog 30 #[.agg #[.slice (some ⟨g, 0, none⟩) ns.length cn], .slice (some ⟨go, 0, none⟩) n co, .int .i64 (k : Int), .slice am ms.length cm] w fun e w' => e = .returned (.bool (meetsS ms t)) ∧ Below w.heap.size w w'

set_option maxHeartbeats 2000000 in
theorem meetNon_any (ns : List P.Nd) (out : List (List Nat)) (n cn co go g : Nat) (ms : List ByteArray) (am : Option Addr) (cm : Nat) (k : Nat) (nd : P.Nd) (hnd : ns[k]? = some nd) (hk : nd.kind = 0) : MeetOk ns out n cn co go g ms am cm k P.nonT := by
  intro w hN hK hM
  have hkl := P.getElem?_lt hnd
  have hlt := hN.1
  have hml : ms.length ≤ maxLen := hM.1
  unfold maxLen at hml
  have hNN : Hid (Nodes0 w g ns) := hN
  have hKK : Hid (KidsIn w go out) := hK
  have hMM : Hid (SliceC StrC 1 0 w am ms) := hM
  have q0 : ∀ o1, (w.alloc o1).cell? ⟨g, k * 4, none⟩ = some (.int .i64 0) := fun o1 => ((bcell ((Below.refl w.heap.size w).alloc (Nat.le_refl _) o1)).1 _ _ hlt).trans (by rw [← hk]; exact (hN.2 k nd hnd).1)
  have q1 : ∀ o1, (w.alloc o1).cell? ⟨g, k * 4 + 1, none⟩ = some (.string nd.name) := fun o1 => ((bcell ((Below.refl w.heap.size w).alloc (Nat.le_refl _) o1)).1 _ _ hlt).trans (hN.2 k nd hnd).2.1
  have q2 : ∀ o1, (w.alloc o1).cell? ⟨g, k * 4 + 2, none⟩ = some (.string nd.value) := fun o1 => ((bcell ((Below.refl w.heap.size w).alloc (Nat.le_refl _) o1)).1 _ _ hlt).trans (hN.2 k nd hnd).2.2.1
  have q3 : ∀ o1, (w.alloc o1).cell? ⟨g, k * 4 + 3, none⟩ = some (.int .i64 nd.kids) := fun o1 => ((bcell ((Below.refl w.heap.size w).alloc (Nat.le_refl _) o1)).1 _ _ hlt).trans (hN.2 k nd hnd).2.2.2
  show Calls _ _ _ _ fun e w' => e = .returned (.bool true) ∧ _
  clear hN hK hnd hk hM
  go_enter Tryz.func30, Tryz.ntmps30
  go_wp2_with fail
  go_ret
  exact ⟨rfl, by go_grown⟩

set_option maxHeartbeats 4000000 in
set_option maxRecDepth 100000 in
theorem meetNm_any (ns : List P.Nd) (out : List (List Nat)) (n cn co go g : Nat) (ms : List ByteArray) (am : Option Addr) (cm : Nat) (k : Nat) (nd : P.Nd) (hnd : ns[k]? = some nd) (hk : nd.kind = 1) : MeetOk ns out n cn co go g ms am cm k (P.nmT nd.name) := by
  intro w hN hK hM
  have hkl := P.getElem?_lt hnd
  have hlt := hN.1
  have hml : ms.length ≤ maxLen := hM.1
  unfold maxLen at hml
  have hNN : Hid (Nodes0 w g ns) := hN
  have hKK : Hid (KidsIn w go out) := hK
  have hMM : Hid (SliceC StrC 1 0 w am ms) := hM
  have q0 : ∀ o1, (w.alloc o1).cell? ⟨g, k * 4, none⟩ = some (.int .i64 1) := fun o1 => ((bcell ((Below.refl w.heap.size w).alloc (Nat.le_refl _) o1)).1 _ _ hlt).trans (by rw [← hk]; exact (hN.2 k nd hnd).1)
  have q1 : ∀ o1, (w.alloc o1).cell? ⟨g, k * 4 + 1, none⟩ = some (.string nd.name) := fun o1 => ((bcell ((Below.refl w.heap.size w).alloc (Nat.le_refl _) o1)).1 _ _ hlt).trans (hN.2 k nd hnd).2.1
  have q2 : ∀ o1, (w.alloc o1).cell? ⟨g, k * 4 + 2, none⟩ = some (.string nd.value) := fun o1 => ((bcell ((Below.refl w.heap.size w).alloc (Nat.le_refl _) o1)).1 _ _ hlt).trans (hN.2 k nd hnd).2.2.1
  have q3 : ∀ o1, (w.alloc o1).cell? ⟨g, k * 4 + 3, none⟩ = some (.int .i64 nd.kids) := fun o1 => ((bcell ((Below.refl w.heap.size w).alloc (Nat.le_refl _) o1)).1 _ _ hlt).trans (hN.2 k nd hnd).2.2.2
  show Calls _ _ _ _ fun e w' => e = .returned (.bool (hitS ms true nd.name ⟨#[]⟩)) ∧ _
  clear hN hK hnd hk hM
  go_enter Tryz.func30, Tryz.ntmps30
  go_wp2_with fail
  have HB0 : Hid (Below w.heap.size w ((w.alloc (Obj.cells #[.slice (some ⟨g, 0, none⟩) ns.length cn] 25)).alloc (Obj.cells #[.int .i64 1, .string nd.name, .string nd.value, .int .i64 nd.kids] 36))) := ((Below.refl w.heap.size w).alloc (Nat.le_refl _) _).alloc (by simp) _
  have HM0 : Hid (SliceC StrC 1 0 ((w.alloc (Obj.cells #[.slice (some ⟨g, 0, none⟩) ns.length cn] 25)).alloc (Obj.cells #[.int .i64 1, .string nd.name, .string nd.value, .int .i64 nd.kids] 36)) am ms) := hMM.out.below StrC.holds HB0.out (Nat.le_refl _)
  have hz0 : ((w.alloc (Obj.cells #[.slice (some ⟨g, 0, none⟩) ns.length cn] 25)).alloc (Obj.cells #[.int .i64 1, .string nd.name, .string nd.value, .int .i64 nd.kids] 36)).heap.size = w.heap.size + 2 := by simp
  have c0 : Hid (((w.alloc (Obj.cells #[.slice (some ⟨g, 0, none⟩) ns.length cn] 25)).alloc (Obj.cells #[.int .i64 1, .string nd.name, .string nd.value, .int .i64 nd.kids] 36)).cell? ⟨w.heap.size + 1, 0, none⟩ = some (.int .i64 1)) := by show _ = _; simp
  have c1 : Hid (((w.alloc (Obj.cells #[.slice (some ⟨g, 0, none⟩) ns.length cn] 25)).alloc (Obj.cells #[.int .i64 1, .string nd.name, .string nd.value, .int .i64 nd.kids] 36)).cell? ⟨w.heap.size + 1, 1, none⟩ = some (.string nd.name)) := by show _ = _; simp
  have c2 : Hid (((w.alloc (Obj.cells #[.slice (some ⟨g, 0, none⟩) ns.length cn] 25)).alloc (Obj.cells #[.int .i64 1, .string nd.name, .string nd.value, .int .i64 nd.kids] 36)).cell? ⟨w.heap.size + 1, 2, none⟩ = some (.string nd.value)) := by show _ = _; simp
  clear q0 q1 q2 q3 hNN hKK hMM
  generalize ((w.alloc (Obj.cells #[.slice (some ⟨g, 0, none⟩) ns.length cn] 25)).alloc (Obj.cells #[.int .i64 1, .string nd.name, .string nd.value, .int .i64 nd.kids] 36)) = w0 at *
  go_loopw [10] (fun i wr => ∃ j : Nat, j ≤ ms.length ∧ i = .int .i64 j ∧ Hid (hitTo ms true nd.name ⟨#[]⟩ j = false) ∧ Hid (Below w0.heap.size w0 wr)) (fun i _ => ms.length - (intOf i).toNat)
  case atStart => exact ⟨0, Nat.zero_le _, rfl, rfl, Below.refl _ _⟩
  case round =>
    obtain ⟨j, hj, rfl, hno, hbel⟩ := hrel
    by_cases hlt2 : j < ms.length
    · obtain ⟨m, hm⟩ : ∃ m, ms[j]? = some m := ⟨ms[j], List.getElem?_eq_getElem hlt2⟩
      obtain ⟨b, o, rfl, _, _, hc⟩ := (HM0.out.below StrC.holds hbel.out (Nat.le_refl _)).at hm
      obtain ⟨q0, z0⟩ := hc
      simp only [Nat.mul_one, Nat.add_zero] at q0
      have HX : Hid (ms[j]? = some m) := hm
      have HZ : Hid (m.size ≤ maxLen) := z0
      clear hm z0
      go_wp2_with fail
      refine (sMark_any m _ HZ.out).mono ?_
      rintro e w1 ⟨rfl, hb1⟩
      have HB1 : Hid (Below w0.heap.size w0 w1) := hbel.out.trans (hb1.mono hbel.out.size)
      have d0 : w1.cell? ⟨w.heap.size + 1, 0, none⟩ = some (.int .i64 1) := (HB1.out.cell (p := ⟨w.heap.size + 1, 0, none⟩) (by rw [hz0]; exact Nat.lt_succ_self _)).trans c0.out
      have d1 : w1.cell? ⟨w.heap.size + 1, 1, none⟩ = some (.string nd.name) := (HB1.out.cell (p := ⟨w.heap.size + 1, 1, none⟩) (by rw [hz0]; exact Nat.lt_succ_self _)).trans c1.out
      have d2 : w1.cell? ⟨w.heap.size + 1, 2, none⟩ = some (.string nd.value) := (HB1.out.cell (p := ⟨w.heap.size + 1, 2, none⟩) (by rw [hz0]; exact Nat.lt_succ_self _)).trans c2.out
      have HST : Hid (hitTo ms true nd.name ⟨#[]⟩ (j + 1) = (hitTo ms true nd.name ⟨#[]⟩ j || hitM true nd.name ⟨#[]⟩ m)) := hitTo_step HX.out
      clear hb1 hbel q0
      cases hmk : isMk m with
      | false =>
        have HN : Hid (hitTo ms true nd.name ⟨#[]⟩ (j + 1) = false) := by show _ = _; rw [HST.out, hno.out, hitM, hmk]; rfl
        clear hmk HST hno
        go_wp2_with fail
        go_roundw
        case rel => exact ⟨j + 1, by omega, by go_num, HN, HB1⟩
        case measure => simp [intOf]; omega
      | true =>
        have HH : Hid (hitM true nd.name ⟨#[]⟩ m = (decide (mName m = nd.name) && (true || decide (mVal m = ⟨#[]⟩)))) := by show _ = _; rw [hitM, hmk]; rfl
        clear hmk
        generalize mName m = nm at *
        generalize mVal m = vm at *
        by_cases hne : nm = nd.name
        · have hte := bts_eq hne
          have HT : Hid (true = hitS ms true nd.name ⟨#[]⟩) := by
            refine Eq.symm (hitTo_true (k := j + 1) ?_ _ (by omega))
            rw [HST.out, HH.out, decide_eq_true hne]
            cases hitTo ms true nd.name ⟨#[]⟩ j <;> rfl
          clear HST hno HH hne
          go_wp2_with fail
          go_ret
          exact ⟨ret_bool HT.out, HB0.out.trans (HB1.out.mono HB0.out.size)⟩
        · have hte := bts_ne hne
          have HN : Hid (hitTo ms true nd.name ⟨#[]⟩ (j + 1) = false) := by show _ = _; rw [HST.out, hno.out, HH.out, decide_eq_false hne]; rfl
          clear HST hno HH hne
          go_wp2_with fail
          go_roundw
          case rel => exact ⟨j + 1, by omega, by go_num, HN, HB1⟩
          case measure => simp [intOf]; omega
    · have hke : j = ms.length := by omega
      subst hke
      have HF : Hid (false = hitS ms true nd.name ⟨#[]⟩) := hno.out.symm
      clear hno
      go_wp2_with fail
      go_ret
      exact ⟨ret_bool HF.out, HB0.out.trans (hbel.out.mono HB0.out.size)⟩

set_option maxHeartbeats 4000000 in
set_option maxRecDepth 100000 in
theorem meetVl_any (ns : List P.Nd) (out : List (List Nat)) (n cn co go g : Nat) (ms : List ByteArray) (am : Option Addr) (cm : Nat) (k : Nat) (nd : P.Nd) (hnd : ns[k]? = some nd) (hk : nd.kind = 2) : MeetOk ns out n cn co go g ms am cm k (P.vlT nd.name nd.value) := by
  intro w hN hK hM
  have hkl := P.getElem?_lt hnd
  have hlt := hN.1
  have hml : ms.length ≤ maxLen := hM.1
  unfold maxLen at hml
  have hNN : Hid (Nodes0 w g ns) := hN
  have hKK : Hid (KidsIn w go out) := hK
  have hMM : Hid (SliceC StrC 1 0 w am ms) := hM
  have q0 : ∀ o1, (w.alloc o1).cell? ⟨g, k * 4, none⟩ = some (.int .i64 2) := fun o1 => ((bcell ((Below.refl w.heap.size w).alloc (Nat.le_refl _) o1)).1 _ _ hlt).trans (by rw [← hk]; exact (hN.2 k nd hnd).1)
  have q1 : ∀ o1, (w.alloc o1).cell? ⟨g, k * 4 + 1, none⟩ = some (.string nd.name) := fun o1 => ((bcell ((Below.refl w.heap.size w).alloc (Nat.le_refl _) o1)).1 _ _ hlt).trans (hN.2 k nd hnd).2.1
  have q2 : ∀ o1, (w.alloc o1).cell? ⟨g, k * 4 + 2, none⟩ = some (.string nd.value) := fun o1 => ((bcell ((Below.refl w.heap.size w).alloc (Nat.le_refl _) o1)).1 _ _ hlt).trans (hN.2 k nd hnd).2.2.1
  have q3 : ∀ o1, (w.alloc o1).cell? ⟨g, k * 4 + 3, none⟩ = some (.int .i64 nd.kids) := fun o1 => ((bcell ((Below.refl w.heap.size w).alloc (Nat.le_refl _) o1)).1 _ _ hlt).trans (hN.2 k nd hnd).2.2.2
  show Calls _ _ _ _ fun e w' => e = .returned (.bool (hitS ms false nd.name nd.value)) ∧ _
  clear hN hK hnd hk hM
  go_enter Tryz.func30, Tryz.ntmps30
  go_wp2_with fail
  have HB0 : Hid (Below w.heap.size w ((w.alloc (Obj.cells #[.slice (some ⟨g, 0, none⟩) ns.length cn] 25)).alloc (Obj.cells #[.int .i64 2, .string nd.name, .string nd.value, .int .i64 nd.kids] 36))) := ((Below.refl w.heap.size w).alloc (Nat.le_refl _) _).alloc (by simp) _
  have HM0 : Hid (SliceC StrC 1 0 ((w.alloc (Obj.cells #[.slice (some ⟨g, 0, none⟩) ns.length cn] 25)).alloc (Obj.cells #[.int .i64 2, .string nd.name, .string nd.value, .int .i64 nd.kids] 36)) am ms) := hMM.out.below StrC.holds HB0.out (Nat.le_refl _)
  have hz0 : ((w.alloc (Obj.cells #[.slice (some ⟨g, 0, none⟩) ns.length cn] 25)).alloc (Obj.cells #[.int .i64 2, .string nd.name, .string nd.value, .int .i64 nd.kids] 36)).heap.size = w.heap.size + 2 := by simp
  have c0 : Hid (((w.alloc (Obj.cells #[.slice (some ⟨g, 0, none⟩) ns.length cn] 25)).alloc (Obj.cells #[.int .i64 2, .string nd.name, .string nd.value, .int .i64 nd.kids] 36)).cell? ⟨w.heap.size + 1, 0, none⟩ = some (.int .i64 2)) := by show _ = _; simp
  have c1 : Hid (((w.alloc (Obj.cells #[.slice (some ⟨g, 0, none⟩) ns.length cn] 25)).alloc (Obj.cells #[.int .i64 2, .string nd.name, .string nd.value, .int .i64 nd.kids] 36)).cell? ⟨w.heap.size + 1, 1, none⟩ = some (.string nd.name)) := by show _ = _; simp
  have c2 : Hid (((w.alloc (Obj.cells #[.slice (some ⟨g, 0, none⟩) ns.length cn] 25)).alloc (Obj.cells #[.int .i64 2, .string nd.name, .string nd.value, .int .i64 nd.kids] 36)).cell? ⟨w.heap.size + 1, 2, none⟩ = some (.string nd.value)) := by show _ = _; simp
  clear q0 q1 q2 q3 hNN hKK hMM
  generalize ((w.alloc (Obj.cells #[.slice (some ⟨g, 0, none⟩) ns.length cn] 25)).alloc (Obj.cells #[.int .i64 2, .string nd.name, .string nd.value, .int .i64 nd.kids] 36)) = w0 at *
  go_loopw [10] (fun i wr => ∃ j : Nat, j ≤ ms.length ∧ i = .int .i64 j ∧ Hid (hitTo ms false nd.name nd.value j = false) ∧ Hid (Below w0.heap.size w0 wr)) (fun i _ => ms.length - (intOf i).toNat)
  case atStart => exact ⟨0, Nat.zero_le _, rfl, rfl, Below.refl _ _⟩
  case round =>
    obtain ⟨j, hj, rfl, hno, hbel⟩ := hrel
    by_cases hlt2 : j < ms.length
    · obtain ⟨m, hm⟩ : ∃ m, ms[j]? = some m := ⟨ms[j], List.getElem?_eq_getElem hlt2⟩
      obtain ⟨b, o, rfl, _, _, hc⟩ := (HM0.out.below StrC.holds hbel.out (Nat.le_refl _)).at hm
      obtain ⟨q0, z0⟩ := hc
      simp only [Nat.mul_one, Nat.add_zero] at q0
      have HX : Hid (ms[j]? = some m) := hm
      have HZ : Hid (m.size ≤ maxLen) := z0
      clear hm z0
      go_wp2_with fail
      refine (sMark_any m _ HZ.out).mono ?_
      rintro e w1 ⟨rfl, hb1⟩
      have HB1 : Hid (Below w0.heap.size w0 w1) := hbel.out.trans (hb1.mono hbel.out.size)
      have d0 : w1.cell? ⟨w.heap.size + 1, 0, none⟩ = some (.int .i64 2) := (HB1.out.cell (p := ⟨w.heap.size + 1, 0, none⟩) (by rw [hz0]; exact Nat.lt_succ_self _)).trans c0.out
      have d1 : w1.cell? ⟨w.heap.size + 1, 1, none⟩ = some (.string nd.name) := (HB1.out.cell (p := ⟨w.heap.size + 1, 1, none⟩) (by rw [hz0]; exact Nat.lt_succ_self _)).trans c1.out
      have d2 : w1.cell? ⟨w.heap.size + 1, 2, none⟩ = some (.string nd.value) := (HB1.out.cell (p := ⟨w.heap.size + 1, 2, none⟩) (by rw [hz0]; exact Nat.lt_succ_self _)).trans c2.out
      have HST : Hid (hitTo ms false nd.name nd.value (j + 1) = (hitTo ms false nd.name nd.value j || hitM false nd.name nd.value m)) := hitTo_step HX.out
      clear hb1 hbel q0
      cases hmk : isMk m with
      | false =>
        have HN : Hid (hitTo ms false nd.name nd.value (j + 1) = false) := by show _ = _; rw [HST.out, hno.out, hitM, hmk]; rfl
        clear hmk HST hno
        go_wp2_with fail
        go_roundw
        case rel => exact ⟨j + 1, by omega, by go_num, HN, HB1⟩
        case measure => simp [intOf]; omega
      | true =>
        have HH : Hid (hitM false nd.name nd.value m = (decide (mName m = nd.name) && (false || decide (mVal m = nd.value)))) := by show _ = _; rw [hitM, hmk]; rfl
        clear hmk
        generalize mName m = nm at *
        generalize mVal m = vm at *
        by_cases hne : nm = nd.name
        · have hte := bts_eq hne
          by_cases hv : vm = nd.value
          · have htv := bts_eq hv
            have HT : Hid (true = hitS ms false nd.name nd.value) := by
              refine Eq.symm (hitTo_true (k := j + 1) ?_ _ (by omega))
              rw [HST.out, HH.out, decide_eq_true hne, decide_eq_true hv]
              cases hitTo ms false nd.name nd.value j <;> rfl
            clear HST hno HH hne hv
            go_wp2_with fail
            go_ret
            exact ⟨ret_bool HT.out, HB0.out.trans (HB1.out.mono HB0.out.size)⟩
          · have htv := bts_ne hv
            have HN : Hid (hitTo ms false nd.name nd.value (j + 1) = false) := by show _ = _; rw [HST.out, hno.out, HH.out, decide_eq_false hv, decide_eq_true hne]; rfl
            clear HST hno HH hne hv
            go_wp2_with fail
            go_roundw
            case rel => exact ⟨j + 1, by omega, by go_num, HN, HB1⟩
            case measure => simp [intOf]; omega
        · have hte := bts_ne hne
          have HN : Hid (hitTo ms false nd.name nd.value (j + 1) = false) := by show _ = _; rw [HST.out, hno.out, HH.out, decide_eq_false hne]; rfl
          clear HST hno HH hne
          go_wp2_with fail
          go_roundw
          case rel => exact ⟨j + 1, by omega, by go_num, HN, HB1⟩
          case measure => simp [intOf]; omega
    · have hke : j = ms.length := by omega
      subst hke
      have HF : Hid (false = hitS ms false nd.name nd.value) := hno.out.symm
      clear hno
      go_wp2_with fail
      go_ret
      exact ⟨ret_bool HF.out, HB0.out.trans (hbel.out.mono HB0.out.size)⟩

end Go.Proofs.YthjicahpfhjfdaaGreatDoor
