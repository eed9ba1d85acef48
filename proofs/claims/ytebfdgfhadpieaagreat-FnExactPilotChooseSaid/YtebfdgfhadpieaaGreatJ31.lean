import Derived.Test.YtebfdgfhadpieaaGreatJ28
namespace Go.Proofs.YtebfdgfhadpieaaGreat
set_option maxRecDepth 100000
open Go.RowKit
def hitM (one : Bool) (nm vl : ByteArray) (m : ByteArray) : Bool := isMk m && (decide (mName m = nm) && (one || decide (mVal m = vl)))
def hitTo (ms : List ByteArray) (one : Bool) (nm vl : ByteArray) : Nat → Bool
 | 0 => false
 | k + 1 => hitTo ms one nm vl k || (match ms[k]? with | some m => hitM one nm vl m | none => false)
def hitS (ms : List ByteArray) (one : Bool) (nm vl : ByteArray) : Bool := hitTo ms one nm vl ms.length
def meetsS (ms : List ByteArray) : P.Tr → Bool
 | .nil => true
 | .node b _ p l r =>
  if b = 0 then true
  else if b = 1 then hitS ms true p.1 ⟨#[]⟩
  else if b = 2 then hitS ms false p.1 p.2
  else if b = 3 then !meetsS ms l
  else if b = 4 then meetsS ms l && meetsS ms r
  else meetsS ms l || meetsS ms r
theorem hitTo_true {ms : List ByteArray} {one : Bool} {nm vl : ByteArray} {k : Nat} (h : hitTo ms one nm vl k = true) : ∀ n, k ≤ n → hitTo ms one nm vl n = true
 | 0, hn => by have : k = 0 := by omega
               subst this; exact h
 | n + 1, hn => by
  by_cases e : k = n + 1
  ·subst e; exact h
  ·rw [hitTo, hitTo_true h n (by omega)]; rfl
theorem hitTo_step {ms : List ByteArray} {one : Bool} {nm vl : ByteArray} {k : Nat} {m : ByteArray} (hm : ms[k]? = some m) : hitTo ms one nm vl (k + 1) = (hitTo ms one nm vl k || hitM one nm vl m) := by
 rw [hitTo, hm]
def MeetOk (ns : List P.Nd) (out : List (List Nat)) (n cn co go g : Nat) (ms : List ByteArray) (am : Option Addr) (cm : Nat) (k : Nat) (t : P.Tr) : Prop :=
 ∀ (w : World), Nodes0 w g ns → KidsIn w go out → SliceC StrC 1 0 w am ms →
  Calls Tryz.prog 110 #[.agg #[.slice (some ⟨g, 0, none⟩) ns.length cn], .slice (some ⟨go, 0, none⟩) n co, .int .i64 (k : Int), .slice am ms.length cm] w fun e w' => e = .returned (.bool (meetsS ms t)) ∧ Below w.heap.size w w'
set_option maxHeartbeats 2000000 in
theorem meetNon_any (ns : List P.Nd) (out : List (List Nat)) (n cn co go g : Nat) (ms : List ByteArray) (am : Option Addr) (cm : Nat) (k : Nat) (nd : P.Nd) (hnd : ns[k]? = some nd) (hk : nd.kind = 0) : MeetOk ns out n cn co go g ms am cm k P.nonT := by
 intro w hN hK hM
 have hkl := P.getElem?_lt hnd
 have hlt := hN.1
 have hml : ms.length ≤ maxLen := hM.1
 unfold maxLen at hml
 have hNN : Hid (Nodes0 w g ns) := hN
 have hKK : Hid (KidsIn w go out) := hK
 have hMM : Hid (SliceC StrC 1 0 w am ms) := hM
 have q0 : ∀ o1, (w.alloc o1).cell? ⟨g, k * 4, none⟩ = some (.int .i64 0) := fun o1 => ((bcell ((Below.refl w.heap.size w).alloc nL o1)).1 _ _ hlt).trans (by rw [← hk]; exact (hN.2 k nd hnd).1)
 have q1 : ∀ o1, (w.alloc o1).cell? ⟨g, k * 4 + 1, none⟩ = some (.string nd.name) := fun o1 => ((bcell ((Below.refl w.heap.size w).alloc nL o1)).1 _ _ hlt).trans (hN.2 k nd hnd).2.1
 have q2 : ∀ o1, (w.alloc o1).cell? ⟨g, k * 4 + 2, none⟩ = some (.string nd.value) := fun o1 => ((bcell ((Below.refl w.heap.size w).alloc nL o1)).1 _ _ hlt).trans (hN.2 k nd hnd).2.2.1
 have q3 : ∀ o1, (w.alloc o1).cell? ⟨g, k * 4 + 3, none⟩ = some (.int .i64 nd.kids) := fun o1 => ((bcell ((Below.refl w.heap.size w).alloc nL o1)).1 _ _ hlt).trans (hN.2 k nd hnd).2.2.2
 show Calls _ _ _ _ fun e w' => e = .returned (.bool true) ∧ _
 clear hN hK hnd hk hM
 go_enter Tryz.func110, Tryz.ntmps110
 go_wp2_with fail
 go_ret
 exact ⟨rfl, by go_grown⟩
set_option maxHeartbeats 4000000 in
theorem meetNm_any (ns : List P.Nd) (out : List (List Nat)) (n cn co go g : Nat) (ms : List ByteArray) (am : Option Addr) (cm : Nat) (k : Nat) (nd : P.Nd) (hnd : ns[k]? = some nd) (hk : nd.kind = 1) : MeetOk ns out n cn co go g ms am cm k (P.nmT nd.name) := by
 intro w hN hK hM
 have hkl := P.getElem?_lt hnd
 have hlt := hN.1
 have hml : ms.length ≤ maxLen := hM.1
 unfold maxLen at hml
 have hNN : Hid (Nodes0 w g ns) := hN
 have hKK : Hid (KidsIn w go out) := hK
 have hMM : Hid (SliceC StrC 1 0 w am ms) := hM
 have q0 : ∀ o1, (w.alloc o1).cell? ⟨g, k * 4, none⟩ = some (.int .i64 1) := fun o1 => ((bcell ((Below.refl w.heap.size w).alloc nL o1)).1 _ _ hlt).trans (by rw [← hk]; exact (hN.2 k nd hnd).1)
 have q1 : ∀ o1, (w.alloc o1).cell? ⟨g, k * 4 + 1, none⟩ = some (.string nd.name) := fun o1 => ((bcell ((Below.refl w.heap.size w).alloc nL o1)).1 _ _ hlt).trans (hN.2 k nd hnd).2.1
 have q2 : ∀ o1, (w.alloc o1).cell? ⟨g, k * 4 + 2, none⟩ = some (.string nd.value) := fun o1 => ((bcell ((Below.refl w.heap.size w).alloc nL o1)).1 _ _ hlt).trans (hN.2 k nd hnd).2.2.1
 have q3 : ∀ o1, (w.alloc o1).cell? ⟨g, k * 4 + 3, none⟩ = some (.int .i64 nd.kids) := fun o1 => ((bcell ((Below.refl w.heap.size w).alloc nL o1)).1 _ _ hlt).trans (hN.2 k nd hnd).2.2.2
 show Calls _ _ _ _ fun e w' => e = .returned (.bool (hitS ms true nd.name ⟨#[]⟩)) ∧ _
 clear hN hK hnd hk hM
 go_enter Tryz.func110, Tryz.ntmps110
 go_wp2_with fail
 have HB0 : Hid (Below w.heap.size w ((w.alloc (Obj.cells #[.slice (some ⟨g, 0, none⟩) ns.length cn] 143)).alloc (Obj.cells #[.int .i64 1, .string nd.name, .string nd.value, .int .i64 nd.kids] 168))) := ((Below.refl w.heap.size w).alloc nL _).alloc (by simp) _
 have HM0 : Hid (SliceC StrC 1 0 ((w.alloc (Obj.cells #[.slice (some ⟨g, 0, none⟩) ns.length cn] 143)).alloc (Obj.cells #[.int .i64 1, .string nd.name, .string nd.value, .int .i64 nd.kids] 168)) am ms) := hMM.out.below StrC.holds HB0.out nL
 have hz0 : ((w.alloc (Obj.cells #[.slice (some ⟨g, 0, none⟩) ns.length cn] 143)).alloc (Obj.cells #[.int .i64 1, .string nd.name, .string nd.value, .int .i64 nd.kids] 168)).heap.size = w.heap.size + 2 := by simp
 have c0 : Hid (((w.alloc (Obj.cells #[.slice (some ⟨g, 0, none⟩) ns.length cn] 143)).alloc (Obj.cells #[.int .i64 1, .string nd.name, .string nd.value, .int .i64 nd.kids] 168)).cell? ⟨w.heap.size + 1, 0, none⟩ = some (.int .i64 1)) := by show _ = _; simp
 have c1 : Hid (((w.alloc (Obj.cells #[.slice (some ⟨g, 0, none⟩) ns.length cn] 143)).alloc (Obj.cells #[.int .i64 1, .string nd.name, .string nd.value, .int .i64 nd.kids] 168)).cell? ⟨w.heap.size + 1, 1, none⟩ = some (.string nd.name)) := by show _ = _; simp
 have c2 : Hid (((w.alloc (Obj.cells #[.slice (some ⟨g, 0, none⟩) ns.length cn] 143)).alloc (Obj.cells #[.int .i64 1, .string nd.name, .string nd.value, .int .i64 nd.kids] 168)).cell? ⟨w.heap.size + 1, 2, none⟩ = some (.string nd.value)) := by show _ = _; simp
 clear q0 q1 q2 q3 hNN hKK hMM
 generalize ((w.alloc (Obj.cells #[.slice (some ⟨g, 0, none⟩) ns.length cn] 143)).alloc (Obj.cells #[.int .i64 1, .string nd.name, .string nd.value, .int .i64 nd.kids] 168)) = w0 at *
 go_loopw [10] (fun i wr => ∃ j : Nat, j ≤ ms.length ∧ i = .int .i64 j ∧ Hid (hitTo ms true nd.name ⟨#[]⟩ j = false) ∧ Hid (Below w0.heap.size w0 wr)) (fun i _ => ms.length - (intOf i).toNat)
 case atStart => exact ⟨0, Nat.zero_le _, rfl, rfl, Below.refl _ _⟩
 case round =>
  obtain ⟨j, hj, rfl, hno, hbel⟩ := hrel
  by_cases hlt2 : j < ms.length
  ·obtain ⟨m, hm⟩ : ∃ m, ms[j]? = some m := ⟨ms[j], List.getElem?_eq_getElem hlt2⟩
   obtain ⟨b, o, rfl, _, _, hc⟩ := (HM0.out.below StrC.holds hbel.out nL).at hm
   obtain ⟨q0, z0⟩ := hc
   simp only [Nat.mul_one, Nat.add_zero] at q0
   have HX : Hid (ms[j]? = some m) := hm
   have HZ : Hid (m.size ≤ maxLen) := z0
   clear hm z0
   go_wp2_with fail
   refine (sMark_any m _ HZ.out).mono ?_
   rintro e w1 ⟨rfl, hb1⟩
   have HB1 : Hid (Below w0.heap.size w0 w1) := hbel.out.trans (hb1.mono hbel.out.size)
   have d0 : w1.cell? ⟨w.heap.size + 1, 0, none⟩ = some (.int .i64 1) := (HB1.out.cell (p := ⟨w.heap.size + 1, 0, none⟩) (by rw [hz0]; exact Nat.lt_succ_self _)).trans c0.out
   have d1 : w1.cell? ⟨w.heap.size + 1, 1, none⟩ = some (.string nd.name) := (HB1.out.cell (p := ⟨w.heap.size + 1, 1, none⟩) (by rw [hz0]; exact Nat.lt_succ_self _)).trans c1.out
   have d2 : w1.cell? ⟨w.heap.size + 1, 2, none⟩ = some (.string nd.value) := (HB1.out.cell (p := ⟨w.heap.size + 1, 2, none⟩) (by rw [hz0]; exact Nat.lt_succ_self _)).trans c2.out
   have HST : Hid (hitTo ms true nd.name ⟨#[]⟩ (j + 1) = (hitTo ms true nd.name ⟨#[]⟩ j || hitM true nd.name ⟨#[]⟩ m)) := hitTo_step HX.out
   clear hb1 hbel q0
   cases hmk : isMk m with
   | false =>
    have HN : Hid (hitTo ms true nd.name ⟨#[]⟩ (j + 1) = false) := by show _ = _; rw [HST.out, hno.out, hitM, hmk]; rfl
    clear hmk HST hno
    go_wp2_with fail
    go_roundw
    case rel => exact ⟨j + 1, by omega, by go_num, HN, HB1⟩
    case measure => simp [intOf]; omega
   | true =>
    have HH : Hid (hitM true nd.name ⟨#[]⟩ m = (decide (mName m = nd.name) && (true || decide (mVal m = ⟨#[]⟩)))) := by show _ = _; rw [hitM, hmk]; rfl
    clear hmk
    generalize mName m = nm at *
    generalize mVal m = vm at *
    by_cases hne : nm = nd.name
    ·have hte := bts_eq hne
     have HT : Hid (true = hitS ms true nd.name ⟨#[]⟩) := by
      refine Eq.symm (hitTo_true (k := j + 1) ?_ _ (by omega))
      rw [HST.out, HH.out, decide_eq_true hne]
      cases hitTo ms true nd.name ⟨#[]⟩ j <;> rfl
     clear HST hno HH hne
     go_wp2_with fail
     go_ret
     exact ⟨ret_bool HT.out, HB0.out.trans (HB1.out.mono HB0.out.size)⟩
    ·have hte := bts_ne hne
     have HN : Hid (hitTo ms true nd.name ⟨#[]⟩ (j + 1) = false) := by show _ = _; rw [HST.out, hno.out, HH.out, decide_eq_false hne]; rfl
     clear HST hno HH hne
     go_wp2_with fail
     go_roundw
     case rel => exact ⟨j + 1, by omega, by go_num, HN, HB1⟩
     case measure => simp [intOf]; omega
  ·have hke : j = ms.length := by omega
   subst hke
   have HF : Hid (false = hitS ms true nd.name ⟨#[]⟩) := hno.out.symm
   clear hno
   go_wp2_with fail
   go_ret
   exact ⟨ret_bool HF.out, HB0.out.trans (hbel.out.mono HB0.out.size)⟩
set_option maxHeartbeats 4000000 in
theorem meetVl_any (ns : List P.Nd) (out : List (List Nat)) (n cn co go g : Nat) (ms : List ByteArray) (am : Option Addr) (cm : Nat) (k : Nat) (nd : P.Nd) (hnd : ns[k]? = some nd) (hk : nd.kind = 2) : MeetOk ns out n cn co go g ms am cm k (P.vlT nd.name nd.value) := by
 intro w hN hK hM
 have hkl := P.getElem?_lt hnd
 have hlt := hN.1
 have hml : ms.length ≤ maxLen := hM.1
 unfold maxLen at hml
 have hNN : Hid (Nodes0 w g ns) := hN
 have hKK : Hid (KidsIn w go out) := hK
 have hMM : Hid (SliceC StrC 1 0 w am ms) := hM
 have q0 : ∀ o1, (w.alloc o1).cell? ⟨g, k * 4, none⟩ = some (.int .i64 2) := fun o1 => ((bcell ((Below.refl w.heap.size w).alloc nL o1)).1 _ _ hlt).trans (by rw [← hk]; exact (hN.2 k nd hnd).1)
 have q1 : ∀ o1, (w.alloc o1).cell? ⟨g, k * 4 + 1, none⟩ = some (.string nd.name) := fun o1 => ((bcell ((Below.refl w.heap.size w).alloc nL o1)).1 _ _ hlt).trans (hN.2 k nd hnd).2.1
 have q2 : ∀ o1, (w.alloc o1).cell? ⟨g, k * 4 + 2, none⟩ = some (.string nd.value) := fun o1 => ((bcell ((Below.refl w.heap.size w).alloc nL o1)).1 _ _ hlt).trans (hN.2 k nd hnd).2.2.1
 have q3 : ∀ o1, (w.alloc o1).cell? ⟨g, k * 4 + 3, none⟩ = some (.int .i64 nd.kids) := fun o1 => ((bcell ((Below.refl w.heap.size w).alloc nL o1)).1 _ _ hlt).trans (hN.2 k nd hnd).2.2.2
 show Calls _ _ _ _ fun e w' => e = .returned (.bool (hitS ms false nd.name nd.value)) ∧ _
 clear hN hK hnd hk hM
 go_enter Tryz.func110, Tryz.ntmps110
 go_wp2_with fail
 have HB0 : Hid (Below w.heap.size w ((w.alloc (Obj.cells #[.slice (some ⟨g, 0, none⟩) ns.length cn] 143)).alloc (Obj.cells #[.int .i64 2, .string nd.name, .string nd.value, .int .i64 nd.kids] 168))) := ((Below.refl w.heap.size w).alloc nL _).alloc (by simp) _
 have HM0 : Hid (SliceC StrC 1 0 ((w.alloc (Obj.cells #[.slice (some ⟨g, 0, none⟩) ns.length cn] 143)).alloc (Obj.cells #[.int .i64 2, .string nd.name, .string nd.value, .int .i64 nd.kids] 168)) am ms) := hMM.out.below StrC.holds HB0.out nL
 have hz0 : ((w.alloc (Obj.cells #[.slice (some ⟨g, 0, none⟩) ns.length cn] 143)).alloc (Obj.cells #[.int .i64 2, .string nd.name, .string nd.value, .int .i64 nd.kids] 168)).heap.size = w.heap.size + 2 := by simp
 have c0 : Hid (((w.alloc (Obj.cells #[.slice (some ⟨g, 0, none⟩) ns.length cn] 143)).alloc (Obj.cells #[.int .i64 2, .string nd.name, .string nd.value, .int .i64 nd.kids] 168)).cell? ⟨w.heap.size + 1, 0, none⟩ = some (.int .i64 2)) := by show _ = _; simp
 have c1 : Hid (((w.alloc (Obj.cells #[.slice (some ⟨g, 0, none⟩) ns.length cn] 143)).alloc (Obj.cells #[.int .i64 2, .string nd.name, .string nd.value, .int .i64 nd.kids] 168)).cell? ⟨w.heap.size + 1, 1, none⟩ = some (.string nd.name)) := by show _ = _; simp
 have c2 : Hid (((w.alloc (Obj.cells #[.slice (some ⟨g, 0, none⟩) ns.length cn] 143)).alloc (Obj.cells #[.int .i64 2, .string nd.name, .string nd.value, .int .i64 nd.kids] 168)).cell? ⟨w.heap.size + 1, 2, none⟩ = some (.string nd.value)) := by show _ = _; simp
 clear q0 q1 q2 q3 hNN hKK hMM
 generalize ((w.alloc (Obj.cells #[.slice (some ⟨g, 0, none⟩) ns.length cn] 143)).alloc (Obj.cells #[.int .i64 2, .string nd.name, .string nd.value, .int .i64 nd.kids] 168)) = w0 at *
 go_loopw [10] (fun i wr => ∃ j : Nat, j ≤ ms.length ∧ i = .int .i64 j ∧ Hid (hitTo ms false nd.name nd.value j = false) ∧ Hid (Below w0.heap.size w0 wr)) (fun i _ => ms.length - (intOf i).toNat)
 case atStart => exact ⟨0, Nat.zero_le _, rfl, rfl, Below.refl _ _⟩
 case round =>
  obtain ⟨j, hj, rfl, hno, hbel⟩ := hrel
  by_cases hlt2 : j < ms.length
  ·obtain ⟨m, hm⟩ : ∃ m, ms[j]? = some m := ⟨ms[j], List.getElem?_eq_getElem hlt2⟩
   obtain ⟨b, o, rfl, _, _, hc⟩ := (HM0.out.below StrC.holds hbel.out nL).at hm
   obtain ⟨q0, z0⟩ := hc
   simp only [Nat.mul_one, Nat.add_zero] at q0
   have HX : Hid (ms[j]? = some m) := hm
   have HZ : Hid (m.size ≤ maxLen) := z0
   clear hm z0
   go_wp2_with fail
   refine (sMark_any m _ HZ.out).mono ?_
   rintro e w1 ⟨rfl, hb1⟩
   have HB1 : Hid (Below w0.heap.size w0 w1) := hbel.out.trans (hb1.mono hbel.out.size)
   have d0 : w1.cell? ⟨w.heap.size + 1, 0, none⟩ = some (.int .i64 2) := (HB1.out.cell (p := ⟨w.heap.size + 1, 0, none⟩) (by rw [hz0]; exact Nat.lt_succ_self _)).trans c0.out
   have d1 : w1.cell? ⟨w.heap.size + 1, 1, none⟩ = some (.string nd.name) := (HB1.out.cell (p := ⟨w.heap.size + 1, 1, none⟩) (by rw [hz0]; exact Nat.lt_succ_self _)).trans c1.out
   have d2 : w1.cell? ⟨w.heap.size + 1, 2, none⟩ = some (.string nd.value) := (HB1.out.cell (p := ⟨w.heap.size + 1, 2, none⟩) (by rw [hz0]; exact Nat.lt_succ_self _)).trans c2.out
   have HST : Hid (hitTo ms false nd.name nd.value (j + 1) = (hitTo ms false nd.name nd.value j || hitM false nd.name nd.value m)) := hitTo_step HX.out
   clear hb1 hbel q0
   cases hmk : isMk m with
   | false =>
    have HN : Hid (hitTo ms false nd.name nd.value (j + 1) = false) := by show _ = _; rw [HST.out, hno.out, hitM, hmk]; rfl
    clear hmk HST hno
    go_wp2_with fail
    go_roundw
    case rel => exact ⟨j + 1, by omega, by go_num, HN, HB1⟩
    case measure => simp [intOf]; omega
   | true =>
    have HH : Hid (hitM false nd.name nd.value m = (decide (mName m = nd.name) && (false || decide (mVal m = nd.value)))) := by show _ = _; rw [hitM, hmk]; rfl
    clear hmk
    generalize mName m = nm at *
    generalize mVal m = vm at *
    by_cases hne : nm = nd.name
    ·have hte := bts_eq hne
     by_cases hv : vm = nd.value
     ·have htv := bts_eq hv
      have HT : Hid (true = hitS ms false nd.name nd.value) := by
       refine Eq.symm (hitTo_true (k := j + 1) ?_ _ (by omega))
       rw [HST.out, HH.out, decide_eq_true hne, decide_eq_true hv]
       cases hitTo ms false nd.name nd.value j <;> rfl
      clear HST hno HH hne hv
      go_wp2_with fail
      go_ret
      exact ⟨ret_bool HT.out, HB0.out.trans (HB1.out.mono HB0.out.size)⟩
     ·have htv := bts_ne hv
      have HN : Hid (hitTo ms false nd.name nd.value (j + 1) = false) := by show _ = _; rw [HST.out, hno.out, HH.out, decide_eq_false hv, decide_eq_true hne]; rfl
      clear HST hno HH hne hv
      go_wp2_with fail
      go_roundw
      case rel => exact ⟨j + 1, by omega, by go_num, HN, HB1⟩
      case measure => simp [intOf]; omega
    ·have hte := bts_ne hne
     have HN : Hid (hitTo ms false nd.name nd.value (j + 1) = false) := by show _ = _; rw [HST.out, hno.out, HH.out, decide_eq_false hne]; rfl
     clear HST hno HH hne
     go_wp2_with fail
     go_roundw
     case rel => exact ⟨j + 1, by omega, by go_num, HN, HB1⟩
     case measure => simp [intOf]; omega
  ·have hke : j = ms.length := by omega
   subst hke
   have HF : Hid (false = hitS ms false nd.name nd.value) := hno.out.symm
   clear hno
   go_wp2_with fail
   go_ret
   exact ⟨ret_bool HF.out, HB0.out.trans (hbel.out.mono HB0.out.size)⟩
set_option maxHeartbeats 8000000 in
theorem meetNt_any (ns : List P.Nd) (out : List (List Nat)) (n cn co go g : Nat) (ms : List ByteArray) (am : Option Addr) (cm : Nat) (k a : Nat) (t : P.Tr) (nd : P.Nd) (hol : out.length = n) (hnd : ns[k]? = some nd) (hk : nd.kind = 3) (hout : out[k]? = some [a])
  (ih : MeetOk ns out n cn co go g ms am cm a t) : MeetOk ns out n cn co go g ms am cm k (P.ntT t) := by
 intro w hN hK hM
 have hkl := P.getElem?_lt hnd
 have hlt := hN.1
 have hml : ms.length ≤ maxLen := hM.1
 unfold maxLen at hml
 have hNN : Hid (Nodes0 w g ns) := hN
 have hKK : Hid (KidsIn w go out) := hK
 have hMM : Hid (SliceC StrC 1 0 w am ms) := hM
 have q0 : ∀ o1, (w.alloc o1).cell? ⟨g, k * 4, none⟩ = some (.int .i64 3) := fun o1 => ((bcell ((Below.refl w.heap.size w).alloc nL o1)).1 _ _ hlt).trans (by rw [← hk]; exact (hN.2 k nd hnd).1)
 have q1 : ∀ o1, (w.alloc o1).cell? ⟨g, k * 4 + 1, none⟩ = some (.string nd.name) := fun o1 => ((bcell ((Below.refl w.heap.size w).alloc nL o1)).1 _ _ hlt).trans (hN.2 k nd hnd).2.1
 have q2 : ∀ o1, (w.alloc o1).cell? ⟨g, k * 4 + 2, none⟩ = some (.string nd.value) := fun o1 => ((bcell ((Below.refl w.heap.size w).alloc nL o1)).1 _ _ hlt).trans (hN.2 k nd hnd).2.2.1
 have q3 : ∀ o1, (w.alloc o1).cell? ⟨g, k * 4 + 3, none⟩ = some (.int .i64 nd.kids) := fun o1 => ((bcell ((Below.refl w.heap.size w).alloc nL o1)).1 _ _ hlt).trans (hN.2 k nd hnd).2.2.2
 obtain ⟨gk, c, k0, k1⟩ := kids_one hK hout
 have hkn := out_lt hol hout
 have hgk : gk < w.heap.size := block_lt_of_cell k1
 have HB0 : Hid (Below w.heap.size w ((w.alloc (Obj.cells #[.slice (some ⟨g, 0, none⟩) ns.length cn] 143)).alloc (Obj.cells #[.int .i64 3, .string nd.name, .string nd.value, .int .i64 nd.kids] 168))) := ((Below.refl w.heap.size w).alloc nL _).alloc (by simp) _
 have m0 := cell_regrown ((HB0.out.cell (p := ⟨go, k, none⟩) hK.1).trans k0)
 have m1 := cell_regrown ((HB0.out.cell (p := ⟨gk, 0, none⟩) hgk).trans k1)
 have s0 := cell_regrown (show ((w.alloc (Obj.cells #[.slice (some ⟨g, 0, none⟩) ns.length cn] 143)).alloc (Obj.cells #[.int .i64 3, .string nd.name, .string nd.value, .int .i64 nd.kids] 168)).cell? ⟨w.heap.size, 0, none⟩ = some (.slice (some ⟨g, 0, none⟩) ns.length cn) by simp)
 have cA : ∀ d os, Calls Tryz.prog 110 #[.agg #[.slice (some ⟨g, 0, none⟩) ns.length cn], .slice (some ⟨go, 0, none⟩) n co, .int .i64 (a : Int), .slice am ms.length cm] (Sort.grow (redrawn ((w.alloc (Obj.cells #[.slice (some ⟨g, 0, none⟩) ns.length cn] 143)).alloc (Obj.cells #[.int .i64 3, .string nd.name, .string nd.value, .int .i64 nd.kids] 168)) d) os) fun e w'' => e = .returned (.bool (meetsS ms t)) ∧ ∃ p : Regrown, w'' = Sort.grow (redrawn ((w.alloc (Obj.cells #[.slice (some ⟨g, 0, none⟩) ns.length cn] 143)).alloc (Obj.cells #[.int .i64 3, .string nd.name, .string nd.value, .int .i64 nd.kids] 168)) p.d) p.os :=
  fun d os => Calls.regrown_of (ih _ ((hNN.out.grown HB0.out).grown (below_regrown _ d os)) ((hKK.out.grown HB0.out).grown (below_regrown _ d os)) ((hMM.out.below StrC.holds HB0.out nL).below StrC.holds (below_regrown _ d os) nL))
 show Calls _ _ _ _ fun e w' => e = .returned (.bool (!meetsS ms t)) ∧ _
 clear hN hK hnd hk hM hNN hKK hMM k0 k1 hout ih
 generalize meetsS ms t = X at *
 generalize ((a : Nat) : Int) = ia at *
 go_enter Tryz.func110, Tryz.ntmps110
 go_wp2_with fail
 clear q0 q1 q2 q3
 generalize ((w.alloc (Obj.cells #[.slice (some ⟨g, 0, none⟩) ns.length cn] 143)).alloc (Obj.cells #[.int .i64 3, .string nd.name, .string nd.value, .int .i64 nd.kids] 168)) = W at *
 cases X
 all_goals
  refine wp_region_quiet_below (by kernel_rfl) (by kernel_rfl) ?_
  repeat (go_big_quiet_step (first | (go_at_call 110; exact cA _ _)))
  refine wpQuiet_nil ?_
  intro w5 hw'
  obtain ⟨⟨dq, osq⟩, hw''⟩ := hw'
  have hB := below_regrown W dq osq
  simp only [] at hw''
  rw [← hw''] at hB
  have HB5 : Hid (Below w.heap.size w w5) := HB0.out.trans (hB.mono HB0.out.size)
  clear hw'' hB
  go_wp2_with fail
  go_ret
  exact ⟨rfl, HB5.out⟩
set_option maxHeartbeats 8000000 in
theorem meetAn_any (ns : List P.Nd) (out : List (List Nat)) (n cn co go g : Nat) (ms : List ByteArray) (am : Option Addr) (cm : Nat) (k a b : Nat) (t u : P.Tr) (nd : P.Nd) (hol : out.length = n) (hnd : ns[k]? = some nd) (hk : nd.kind = 4) (hout : out[k]? = some [a, b])
  (ih : MeetOk ns out n cn co go g ms am cm a t) (ih' : MeetOk ns out n cn co go g ms am cm b u) : MeetOk ns out n cn co go g ms am cm k (P.anT t u) := by
 intro w hN hK hM
 have hkl := P.getElem?_lt hnd
 have hlt := hN.1
 have hml : ms.length ≤ maxLen := hM.1
 unfold maxLen at hml
 have hNN : Hid (Nodes0 w g ns) := hN
 have hKK : Hid (KidsIn w go out) := hK
 have hMM : Hid (SliceC StrC 1 0 w am ms) := hM
 have q0 : ∀ o1, (w.alloc o1).cell? ⟨g, k * 4, none⟩ = some (.int .i64 4) := fun o1 => ((bcell ((Below.refl w.heap.size w).alloc nL o1)).1 _ _ hlt).trans (by rw [← hk]; exact (hN.2 k nd hnd).1)
 have q1 : ∀ o1, (w.alloc o1).cell? ⟨g, k * 4 + 1, none⟩ = some (.string nd.name) := fun o1 => ((bcell ((Below.refl w.heap.size w).alloc nL o1)).1 _ _ hlt).trans (hN.2 k nd hnd).2.1
 have q2 : ∀ o1, (w.alloc o1).cell? ⟨g, k * 4 + 2, none⟩ = some (.string nd.value) := fun o1 => ((bcell ((Below.refl w.heap.size w).alloc nL o1)).1 _ _ hlt).trans (hN.2 k nd hnd).2.2.1
 have q3 : ∀ o1, (w.alloc o1).cell? ⟨g, k * 4 + 3, none⟩ = some (.int .i64 nd.kids) := fun o1 => ((bcell ((Below.refl w.heap.size w).alloc nL o1)).1 _ _ hlt).trans (hN.2 k nd hnd).2.2.2
 obtain ⟨gk, c, k0, k1, k2⟩ := kids_two hK hout
 have hkn := out_lt hol hout
 have hgk : gk < w.heap.size := block_lt_of_cell k1
 have HB0 : Hid (Below w.heap.size w ((w.alloc (Obj.cells #[.slice (some ⟨g, 0, none⟩) ns.length cn] 143)).alloc (Obj.cells #[.int .i64 4, .string nd.name, .string nd.value, .int .i64 nd.kids] 168))) := ((Below.refl w.heap.size w).alloc nL _).alloc (by simp) _
 have m0 := cell_regrown ((HB0.out.cell (p := ⟨go, k, none⟩) hK.1).trans k0)
 have m1 := cell_regrown ((HB0.out.cell (p := ⟨gk, 0, none⟩) hgk).trans k1)
 have m2 := cell_regrown ((HB0.out.cell (p := ⟨gk, 1, none⟩) hgk).trans k2)
 have s0 := cell_regrown (show ((w.alloc (Obj.cells #[.slice (some ⟨g, 0, none⟩) ns.length cn] 143)).alloc (Obj.cells #[.int .i64 4, .string nd.name, .string nd.value, .int .i64 nd.kids] 168)).cell? ⟨w.heap.size, 0, none⟩ = some (.slice (some ⟨g, 0, none⟩) ns.length cn) by simp)
 have cA : ∀ d os, Calls Tryz.prog 110 #[.agg #[.slice (some ⟨g, 0, none⟩) ns.length cn], .slice (some ⟨go, 0, none⟩) n co, .int .i64 (a : Int), .slice am ms.length cm] (Sort.grow (redrawn ((w.alloc (Obj.cells #[.slice (some ⟨g, 0, none⟩) ns.length cn] 143)).alloc (Obj.cells #[.int .i64 4, .string nd.name, .string nd.value, .int .i64 nd.kids] 168)) d) os) fun e w'' => e = .returned (.bool (meetsS ms t)) ∧ ∃ p : Regrown, w'' = Sort.grow (redrawn ((w.alloc (Obj.cells #[.slice (some ⟨g, 0, none⟩) ns.length cn] 143)).alloc (Obj.cells #[.int .i64 4, .string nd.name, .string nd.value, .int .i64 nd.kids] 168)) p.d) p.os :=
  fun d os => Calls.regrown_of (ih _ ((hNN.out.grown HB0.out).grown (below_regrown _ d os)) ((hKK.out.grown HB0.out).grown (below_regrown _ d os)) ((hMM.out.below StrC.holds HB0.out nL).below StrC.holds (below_regrown _ d os) nL))
 have cB : ∀ d os, Calls Tryz.prog 110 #[.agg #[.slice (some ⟨g, 0, none⟩) ns.length cn], .slice (some ⟨go, 0, none⟩) n co, .int .i64 (b : Int), .slice am ms.length cm] (Sort.grow (redrawn ((w.alloc (Obj.cells #[.slice (some ⟨g, 0, none⟩) ns.length cn] 143)).alloc (Obj.cells #[.int .i64 4, .string nd.name, .string nd.value, .int .i64 nd.kids] 168)) d) os) fun e w'' => e = .returned (.bool (meetsS ms u)) ∧ ∃ p : Regrown, w'' = Sort.grow (redrawn ((w.alloc (Obj.cells #[.slice (some ⟨g, 0, none⟩) ns.length cn] 143)).alloc (Obj.cells #[.int .i64 4, .string nd.name, .string nd.value, .int .i64 nd.kids] 168)) p.d) p.os :=
  fun d os => Calls.regrown_of (ih' _ ((hNN.out.grown HB0.out).grown (below_regrown _ d os)) ((hKK.out.grown HB0.out).grown (below_regrown _ d os)) ((hMM.out.below StrC.holds HB0.out nL).below StrC.holds (below_regrown _ d os) nL))
 show Calls _ _ _ _ fun e w' => e = .returned (.bool (meetsS ms t && meetsS ms u)) ∧ _
 clear hN hK hnd hk hM hNN hKK hMM k0 k1 k2 hout ih ih'
 generalize meetsS ms t = X at *
 generalize meetsS ms u = Y at *
 generalize ((a : Nat) : Int) = ia at *
 generalize ((b : Nat) : Int) = ib at *
 go_enter Tryz.func110, Tryz.ntmps110
 go_wp2_with fail
 clear q0 q1 q2 q3
 generalize ((w.alloc (Obj.cells #[.slice (some ⟨g, 0, none⟩) ns.length cn] 143)).alloc (Obj.cells #[.int .i64 4, .string nd.name, .string nd.value, .int .i64 nd.kids] 168)) = W at *
 cases X
 all_goals
  refine wp_region_quiet_below (by kernel_rfl) (by kernel_rfl) ?_
  repeat (go_big_quiet_step (first | (go_at_call_has 110 ia; exact cA _ _) | (go_at_call_has 110 ib; exact cB _ _)))
  refine wpQuiet_nil ?_
  intro w5 hw'
  obtain ⟨⟨dq, osq⟩, hw''⟩ := hw'
  have hB := below_regrown W dq osq
  simp only [] at hw''
  rw [← hw''] at hB
  have HB5 : Hid (Below w.heap.size w w5) := HB0.out.trans (hB.mono HB0.out.size)
  clear hw'' hB
  go_wp2_with fail
  go_ret
  exact ⟨rfl, HB5.out⟩
set_option maxHeartbeats 8000000 in
theorem meetOr_any (ns : List P.Nd) (out : List (List Nat)) (n cn co go g : Nat) (ms : List ByteArray) (am : Option Addr) (cm : Nat) (k a b : Nat) (t u : P.Tr) (nd : P.Nd) (hol : out.length = n) (hnd : ns[k]? = some nd) (hk : nd.kind = 5) (hout : out[k]? = some [a, b])
  (ih : MeetOk ns out n cn co go g ms am cm a t) (ih' : MeetOk ns out n cn co go g ms am cm b u) : MeetOk ns out n cn co go g ms am cm k (P.orT t u) := by
 intro w hN hK hM
 have hkl := P.getElem?_lt hnd
 have hlt := hN.1
 have hml : ms.length ≤ maxLen := hM.1
 unfold maxLen at hml
 have hNN : Hid (Nodes0 w g ns) := hN
 have hKK : Hid (KidsIn w go out) := hK
 have hMM : Hid (SliceC StrC 1 0 w am ms) := hM
 have q0 : ∀ o1, (w.alloc o1).cell? ⟨g, k * 4, none⟩ = some (.int .i64 5) := fun o1 => ((bcell ((Below.refl w.heap.size w).alloc nL o1)).1 _ _ hlt).trans (by rw [← hk]; exact (hN.2 k nd hnd).1)
 have q1 : ∀ o1, (w.alloc o1).cell? ⟨g, k * 4 + 1, none⟩ = some (.string nd.name) := fun o1 => ((bcell ((Below.refl w.heap.size w).alloc nL o1)).1 _ _ hlt).trans (hN.2 k nd hnd).2.1
 have q2 : ∀ o1, (w.alloc o1).cell? ⟨g, k * 4 + 2, none⟩ = some (.string nd.value) := fun o1 => ((bcell ((Below.refl w.heap.size w).alloc nL o1)).1 _ _ hlt).trans (hN.2 k nd hnd).2.2.1
 have q3 : ∀ o1, (w.alloc o1).cell? ⟨g, k * 4 + 3, none⟩ = some (.int .i64 nd.kids) := fun o1 => ((bcell ((Below.refl w.heap.size w).alloc nL o1)).1 _ _ hlt).trans (hN.2 k nd hnd).2.2.2
 obtain ⟨gk, c, k0, k1, k2⟩ := kids_two hK hout
 have hkn := out_lt hol hout
 have hgk : gk < w.heap.size := block_lt_of_cell k1
 have HB0 : Hid (Below w.heap.size w ((w.alloc (Obj.cells #[.slice (some ⟨g, 0, none⟩) ns.length cn] 143)).alloc (Obj.cells #[.int .i64 5, .string nd.name, .string nd.value, .int .i64 nd.kids] 168))) := ((Below.refl w.heap.size w).alloc nL _).alloc (by simp) _
 have m0 := cell_regrown ((HB0.out.cell (p := ⟨go, k, none⟩) hK.1).trans k0)
 have m1 := cell_regrown ((HB0.out.cell (p := ⟨gk, 0, none⟩) hgk).trans k1)
 have m2 := cell_regrown ((HB0.out.cell (p := ⟨gk, 1, none⟩) hgk).trans k2)
 have s0 := cell_regrown (show ((w.alloc (Obj.cells #[.slice (some ⟨g, 0, none⟩) ns.length cn] 143)).alloc (Obj.cells #[.int .i64 5, .string nd.name, .string nd.value, .int .i64 nd.kids] 168)).cell? ⟨w.heap.size, 0, none⟩ = some (.slice (some ⟨g, 0, none⟩) ns.length cn) by simp)
 have cA : ∀ d os, Calls Tryz.prog 110 #[.agg #[.slice (some ⟨g, 0, none⟩) ns.length cn], .slice (some ⟨go, 0, none⟩) n co, .int .i64 (a : Int), .slice am ms.length cm] (Sort.grow (redrawn ((w.alloc (Obj.cells #[.slice (some ⟨g, 0, none⟩) ns.length cn] 143)).alloc (Obj.cells #[.int .i64 5, .string nd.name, .string nd.value, .int .i64 nd.kids] 168)) d) os) fun e w'' => e = .returned (.bool (meetsS ms t)) ∧ ∃ p : Regrown, w'' = Sort.grow (redrawn ((w.alloc (Obj.cells #[.slice (some ⟨g, 0, none⟩) ns.length cn] 143)).alloc (Obj.cells #[.int .i64 5, .string nd.name, .string nd.value, .int .i64 nd.kids] 168)) p.d) p.os :=
  fun d os => Calls.regrown_of (ih _ ((hNN.out.grown HB0.out).grown (below_regrown _ d os)) ((hKK.out.grown HB0.out).grown (below_regrown _ d os)) ((hMM.out.below StrC.holds HB0.out nL).below StrC.holds (below_regrown _ d os) nL))
 have cB : ∀ d os, Calls Tryz.prog 110 #[.agg #[.slice (some ⟨g, 0, none⟩) ns.length cn], .slice (some ⟨go, 0, none⟩) n co, .int .i64 (b : Int), .slice am ms.length cm] (Sort.grow (redrawn ((w.alloc (Obj.cells #[.slice (some ⟨g, 0, none⟩) ns.length cn] 143)).alloc (Obj.cells #[.int .i64 5, .string nd.name, .string nd.value, .int .i64 nd.kids] 168)) d) os) fun e w'' => e = .returned (.bool (meetsS ms u)) ∧ ∃ p : Regrown, w'' = Sort.grow (redrawn ((w.alloc (Obj.cells #[.slice (some ⟨g, 0, none⟩) ns.length cn] 143)).alloc (Obj.cells #[.int .i64 5, .string nd.name, .string nd.value, .int .i64 nd.kids] 168)) p.d) p.os :=
  fun d os => Calls.regrown_of (ih' _ ((hNN.out.grown HB0.out).grown (below_regrown _ d os)) ((hKK.out.grown HB0.out).grown (below_regrown _ d os)) ((hMM.out.below StrC.holds HB0.out nL).below StrC.holds (below_regrown _ d os) nL))
 show Calls _ _ _ _ fun e w' => e = .returned (.bool (meetsS ms t || meetsS ms u)) ∧ _
 clear hN hK hnd hk hM hNN hKK hMM k0 k1 k2 hout ih ih'
 generalize meetsS ms t = X at *
 generalize meetsS ms u = Y at *
 generalize ((a : Nat) : Int) = ia at *
 generalize ((b : Nat) : Int) = ib at *
 go_enter Tryz.func110, Tryz.ntmps110
 go_wp2_with fail
 clear q0 q1 q2 q3
 generalize ((w.alloc (Obj.cells #[.slice (some ⟨g, 0, none⟩) ns.length cn] 143)).alloc (Obj.cells #[.int .i64 5, .string nd.name, .string nd.value, .int .i64 nd.kids] 168)) = W at *
 cases X
 all_goals
  refine wp_region_quiet_below (by kernel_rfl) (by kernel_rfl) ?_
  repeat (go_big_quiet_step (first | (go_at_call_has 110 ia; exact cA _ _) | (go_at_call_has 110 ib; exact cB _ _)))
  refine wpQuiet_nil ?_
  intro w5 hw'
  obtain ⟨⟨dq, osq⟩, hw''⟩ := hw'
  have hB := below_regrown W dq osq
  simp only [] at hw''
  rw [← hw''] at hB
  have HB5 : Hid (Below w.heap.size w w5) := HB0.out.trans (hB.mono HB0.out.size)
  clear hw'' hB
  go_wp2_with fail
  go_ret
  exact ⟨rfl, HB5.out⟩
theorem meet_any (ns : List P.Nd) (out : List (List Nat)) (n cn co go g : Nat) (ms : List ByteArray) (am : Option Addr) (cm : Nat) (hol : out.length = n) (t : P.Tr) (k : Nat) (h : P.IsT ns out k t) : MeetOk ns out n cn co go g ms am cm k t := by
 refine P.isT_ind (ns := ns) (out := out) (p := fun k t => MeetOk ns out n cn co go g ms am cm k t) ?_ ?_ ?_ ?_ ?_ ?_ t k h
 ·intro k nd hnd hk _
  exact meetNon_any ns out n cn co go g ms am cm k nd hnd hk
 ·intro k nd hnd hk _
  exact meetNm_any ns out n cn co go g ms am cm k nd hnd hk
 ·intro k nd hnd hk _
  exact meetVl_any ns out n cn co go g ms am cm k nd hnd hk
 ·intro k nd a t hnd hk hout _ _ ih
  exact meetNt_any ns out n cn co go g ms am cm k a t nd hol hnd hk hout ih
 ·intro k nd a b t u hnd hk hout _ _ _ _ ih ih'
  exact meetAn_any ns out n cn co go g ms am cm k a b t u nd hol hnd hk hout ih ih'
 ·intro k nd a b t u hnd hk hout _ _ _ _ ih ih'
  exact meetOr_any ns out n cn co go g ms am cm k a b t u nd hol hnd hk hout ih ih'
end Go.Proofs.YtebfdgfhadpieaaGreat
