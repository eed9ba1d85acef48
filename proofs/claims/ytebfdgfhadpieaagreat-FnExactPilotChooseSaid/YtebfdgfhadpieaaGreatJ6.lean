import Derived.Test.YtebfdgfhadpieaaGreatPure
import Derived.Handy
import Derived.Test.YtebfdgfhadpieaaGreatTk0
import Derived.BigQuiet
namespace Go.Proofs.YtebfdgfhadpieaaGreat
set_option maxRecDepth 100000
open Go.RowKit
theorem ret_bool {a b : Bool} (h : a = b) : Ending.returned (.bool a) = .returned (.bool b) := by rw [h]
theorem ret_int {k : IntKind} {a b : Int} (h : a = b) : Ending.returned (.int k a) = .returned (.int k b) := by rw [h]
theorem ret_str {a b : ByteArray} (h : a = b) : Ending.returned (.string a) = .returned (.string b) := by rw [h]
set_option maxHeartbeats 400000 in
theorem letter_any (c : UInt8) (w : World) :
  Calls Tryz.prog 53 #[.int .u8 c.toNat] w fun e w' => e = .returned (.bool (P.letter c)) ∧ w' = w := by
 have hc : c.toNat < 256 := c.toNat_lt
 have hn : P.letter c = decide (97 ≤ c.toNat ∧ c.toNat ≤ 122 ∨ 48 ≤ c.toNat ∧ c.toNat ≤ 57 ∨ c.toNat = 45 ∨ c.toNat = 95) := rfl
 generalize P.letter c = L at hn
 generalize c.toNat = n at *
 have HH : Hid (L = decide (97 ≤ n ∧ n ≤ 122 ∨ 48 ≤ n ∧ n ≤ 57 ∨ n = 45 ∨ n = 95)) := hn
 clear hn
 go_enter Tryz.func53, Tryz.ntmps53
 go_wp2
 all_goals go_ret
 all_goals refine ⟨ret_bool ?_, rfl⟩
 all_goals rw [HH.out, Bool.eq_iff_iff]
 all_goals simp
 all_goals omega
set_option maxHeartbeats 400000 in
theorem inName_any (c : UInt8) (w : World) :
  Calls Tryz.prog 111 #[.int .u8 c.toNat] w fun e w' => e = .returned (.bool (P.letter c)) ∧ w' = w := by
 have hc : c.toNat < 256 := c.toNat_lt
 have hn : P.letter c = decide (97 ≤ c.toNat ∧ c.toNat ≤ 122 ∨ 48 ≤ c.toNat ∧ c.toNat ≤ 57 ∨ c.toNat = 45 ∨ c.toNat = 95) := rfl
 generalize P.letter c = L at hn
 generalize c.toNat = n at *
 have HH : Hid (L = decide (97 ≤ n ∧ n ≤ 122 ∨ 48 ≤ n ∧ n ≤ 57 ∨ n = 45 ∨ n = 95)) := hn
 clear hn
 go_enter Tryz.func111, Tryz.ntmps111
 go_wp2
 all_goals go_ret
 all_goals refine ⟨ret_bool ?_, rfl⟩
 all_goals rw [HH.out, Bool.eq_iff_iff]
 all_goals simp
 all_goals omega
def inB (n lo hi : Int) : Bool := decide (lo ≤ n ∧ n ≤ hi)
set_option maxHeartbeats 400000 in
theorem in_any (n lo hi : Int) (w : World) :
  Calls Tryz.prog 28 #[.int .i64 n, .int .i64 lo, .int .i64 hi] w fun e w' => e = .returned (.bool (inB n lo hi)) ∧ w' = w := by
 have HH : Hid (inB n lo hi = decide (lo ≤ n ∧ n ≤ hi)) := rfl
 generalize inB n lo hi = L at *
 go_enter Tryz.func28, Tryz.ntmps28
 go_wp2
 all_goals go_ret
 all_goals refine ⟨ret_bool ?_, rfl⟩
 all_goals rw [HH.out, Bool.eq_iff_iff]
 all_goals simp
 all_goals omega
theorem take_snoc (s : ByteArray) (k : Nat) (h : k < s.size) : s.data.toList.take (k + 1) = s.data.toList.take k ++ [s[k]] := by
 rw [List.take_succ_eq_append_getElem (by simpa using h)]; rfl
theorem nameOk_no {s : ByteArray} {k : Nat} (h : k < s.size) (hl : P.letter s[k] = false) : P.nameOk s = false := by
 unfold P.nameOk
 have : s.data.toList.all P.letter = false := by
  rw [List.all_eq_false]
  exact ⟨s[k], by simp [ByteArray.getElem_eq_getElem_data], by simp [hl]⟩
 rw [this, Bool.and_false]
theorem nameOk_size {s : ByteArray} (h : ¬ (1 ≤ s.size ∧ s.size ≤ 20)) : P.nameOk s = false := by
 unfold P.nameOk
 rw [decide_eq_false h, Bool.false_and]
theorem nameOk_yes {s : ByteArray} (h : 1 ≤ s.size ∧ s.size ≤ 20) (hl : (s.data.toList.take s.size).all P.letter = true) : P.nameOk s = true := by
 unfold P.nameOk
 rw [List.take_of_length_le (by simp)] at hl
 rw [decide_eq_true h, hl]; rfl
set_option maxHeartbeats 400000 in
theorem nameOk_any (s : ByteArray) (w : World) (hs : s.size ≤ maxLen) :
  Calls Tryz.prog 27 #[.string s] w fun e w' => e = .returned (.bool (P.nameOk s)) ∧ w' = w := by
 unfold maxLen at hs
 by_cases hsz : 1 ≤ s.size ∧ s.size ≤ 20
 ·obtain ⟨h1, h2⟩ := hsz
  have hin : inB s.size 1 20 = true := by unfold inB; simp; omega
  go_enter Tryz.func27, Tryz.ntmps27
  go_wp2_with (go_at_call 28; refine (in_any _ _ _ _).mono ?_; rintro e w' ⟨rfl, rfl⟩; rw [hin])
  go_loop [3] (fun i => ∃ k : Nat, k ≤ s.size ∧ i = .int .i64 k ∧ (s.data.toList.take k).all P.letter = true) (fun i => s.size - (intOf i).toNat)
  case atStart => exact ⟨0, Nat.zero_le _, rfl, rfl⟩
  case round =>
   obtain ⟨k, hk, rfl, hall⟩ := hrel
   have HA : Hid ((s.data.toList.take k).all P.letter = true) := hall
   clear hall
   by_cases hlt : k < s.size
   ·cases hL : P.letter s[k] with
    | false =>
     have HN : Hid (P.nameOk s = false) := nameOk_no hlt hL
     have HL : Hid (P.letter s[k] = false) := hL
     clear hL
     go_wp2_with (go_at_call 53; refine (letter_any _ _).mono ?_; rintro e w' ⟨rfl, rfl⟩; rw [HL.out])
     go_ret
     exact ⟨ret_bool HN.out.symm, rfl⟩
    | true =>
     have HL : Hid (P.letter s[k] = true) := hL
     clear hL
     have HT : Hid ((s.data.toList.take (k + 1)).all P.letter = true) := by
      show _ = true
      rw [take_snoc s k hlt, List.all_append, HA.out]; simp [HL.out]
     go_wp2_with (go_at_call 53; refine (letter_any _ _).mono ?_; rintro e w' ⟨rfl, rfl⟩; rw [HL.out])
     go_round
     case rel => exact ⟨k + 1, by omega, by go_num, HT.out⟩
     case measure => simp [intOf]; omega
   ·go_wp2_with fail
    go_ret
    have hke : k = s.size := by omega
    exact ⟨ret_bool (nameOk_yes ⟨h1, h2⟩ (by rw [← hke]; exact HA.out)).symm, rfl⟩
 ·have hin : inB s.size 1 20 = false := by unfold inB; simp; omega
  have HN : Hid (P.nameOk s = false) := nameOk_size hsz
  clear hsz
  go_enter Tryz.func27, Tryz.ntmps27
  go_wp2_with (go_at_call 28; refine (in_any _ _ _ _).mono ?_; rintro e w' ⟨rfl, rfl⟩; rw [hin])
  go_ret
  exact ⟨ret_bool HN.out.symm, rfl⟩
set_option maxHeartbeats 400000 in
theorem isName_any (s : ByteArray) (w : World) (hs : s.size ≤ maxLen) :
  Calls Tryz.prog 92 #[.string s] w fun e w' => e = .returned (.bool (P.nameOk s)) ∧ w' = w := by
 unfold maxLen at hs
 by_cases hsz : 1 ≤ s.size ∧ s.size ≤ 20
 ·obtain ⟨h1, h2⟩ := hsz
  go_enter Tryz.func92, Tryz.ntmps92
  go_wp2_with fail
  go_loop [14] (fun i => ∃ k : Nat, k ≤ s.size ∧ i = .int .i64 k ∧ (s.data.toList.take k).all P.letter = true) (fun i => s.size - (intOf i).toNat)
  case atStart => exact ⟨0, Nat.zero_le _, rfl, rfl⟩
  case round =>
   obtain ⟨k, hk, rfl, hall⟩ := hrel
   have HA : Hid ((s.data.toList.take k).all P.letter = true) := hall
   clear hall
   by_cases hlt : k < s.size
   ·cases hL : P.letter s[k] with
    | false =>
     have HN : Hid (P.nameOk s = false) := nameOk_no hlt hL
     have HL : Hid (P.letter s[k] = false) := hL
     clear hL
     go_wp2_with (go_at_call 111; refine (inName_any _ _).mono ?_; rintro e w' ⟨rfl, rfl⟩; rw [HL.out])
     go_ret
     exact ⟨ret_bool HN.out.symm, rfl⟩
    | true =>
     have HL : Hid (P.letter s[k] = true) := hL
     clear hL
     have HT : Hid ((s.data.toList.take (k + 1)).all P.letter = true) := by
      show _ = true
      rw [take_snoc s k hlt, List.all_append, HA.out]; simp [HL.out]
     go_wp2_with (go_at_call 111; refine (inName_any _ _).mono ?_; rintro e w' ⟨rfl, rfl⟩; rw [HL.out])
     go_round
     case rel => exact ⟨k + 1, by omega, by go_num, HT.out⟩
     case measure => simp [intOf]; omega
   ·go_wp2_with fail
    go_ret
    have hke : k = s.size := by omega
    exact ⟨ret_bool (nameOk_yes ⟨h1, h2⟩ (by rw [← hke]; exact HA.out)).symm, rfl⟩
 ·have HN : Hid (P.nameOk s = false) := nameOk_size hsz
  rcases (show (s.size : Int) < 1 ∨ (20 : Int) < s.size by omega) with hlt | hlt
  all_goals
   clear hsz
   go_enter Tryz.func92, Tryz.ntmps92
   go_wp2_with fail
   go_ret
   exact ⟨ret_bool HN.out.symm, rfl⟩
def Meth (P : Program) (x : Value) (name : String) (args : Array Value) (w : World) (R : Value → World → Prop) : Prop :=
 ∃ f bs, (callMethod x name args).run P w = .ok (.enter f bs) w ∧ Calls P f bs w fun e w' => ∃ u, e = .returned u ∧ R u w'
theorem extract_one (x : Value) (qs : Array Value) : (#[x] ++ qs).extract 1 (#[x] ++ qs).size = qs := by
 apply Array.ext_getElem?
 intro i
 rw [Array.getElem?_extract]
 simp only [Array.size_append, List.size_toArray, List.length_cons, List.length_nil]
 split
 ·rw [Array.getElem?_append_right (by simp)]
  congr 1
  simp
 ·rw [Array.getElem?_eq_none]
  omega
theorem map_none (f : Operand → Value) : (#[] : Array Operand).map f = #[] := by simp
theorem map_one (f : Operand → Value) (x : Operand) : #[x].map f = #[f x] := by simp
theorem wpList_meth {P : Program} {ops : Array Oper} {rest : List Oper} {o : Oper} {a : Act} {Q : Exit → Act → World → Prop} {w : World}
  (hw : Region.wanted o (yielded ops a.tmps) = true) (x : Operand) (name : String) (qs : Array Operand) (ts : Array TypeId)
  (ho : o.op = .call { callee := .invoke x name, args := qs, argTypes := ts })
  (xv : Value) (hx : a.eval x = xv) (bs : Array Value) (hq : qs.map a.eval = bs) (R : Value → World → Prop) (hm : Meth P xv name bs w R)
  (h : ∀ u w', R u w' → wpList P ops Q rest (a.put o.dst u) w') : wpList P ops Q (o :: rest) a w := by
 refine wpList_step fun K hK => ?_
 rw [if_pos hw]
 obtain ⟨f, bs', hr, hc⟩ := hm
 subst hx
 subst hq
 have hrun : (execOp a.eval o).run P w = .ok (.enter f bs') w := by
  unfold execOp
  simp only [ho, resolve, invoke, Sem.run_bind, Sem.run_pure, Result.andThen_ok]
  rw [extract_one]
  simp only [Array.getElem?_append, List.size_toArray, List.length_cons, List.length_nil]
  simp only [Nat.zero_add, Nat.lt_one_iff, if_true]
  exact hr
 unfold Oper.wp
 rw [hrun, Oper.upon_enter]
 refine hc.mono ?_
 rintro e w' ⟨u, rfl, hR⟩
 exact hK _ _ (h u w' hR)
def tops (a b : P.Tr) : Int := ((max (P.tall a) (P.tall b) + 1 : Nat) : Int)
def val : P.Tr → Value
 | .nil => .nilIface
 | .node b _ p l r =>
  if b = 0 then .iface 210 (.agg #[])
  else if b = 1 then .iface 236 (.agg #[.string p.1])
  else if b = 2 then .iface 238 (.agg #[.string p.1, .string p.2])
  else if b = 3 then .iface 232 (.agg #[val l, .int .i64 ((P.tall l : Int) + 1)])
  else if b = 4 then .iface 230 (.agg #[val l, val r, .int .i64 (tops l r)])
  else .iface 228 (.agg #[val l, val r, .int .i64 (tops l r)])
theorem val_non : val P.nonT = .iface 210 (.agg #[]) := rfl
theorem val_nm (n : ByteArray) : val (P.nmT n) = .iface 236 (.agg #[.string n]) := rfl
theorem val_vl (n v : ByteArray) : val (P.vlT n v) = .iface 238 (.agg #[.string n, .string v]) := rfl
theorem val_nt (k : P.Tr) : val (P.ntT k) = .iface 232 (.agg #[val k, .int .i64 ((P.tall k : Int) + 1)]) := rfl
theorem val_an (a b : P.Tr) : val (P.anT a b) = .iface 230 (.agg #[val a, val b, .int .i64 (tops a b)]) := rfl
theorem val_or (a b : P.Tr) : val (P.orT a b) = .iface 228 (.agg #[val a, val b, .int .i64 (tops a b)]) := rfl
theorem leafTall_any (w : World) : Calls Tryz.prog 180 #[.agg #[]] w fun e w' => e = .returned (.int .i64 0) ∧ Below w.heap.size w w' := by
 go_enter Tryz.func180, Tryz.ntmps180
 go_wp2
 go_ret
 exact ⟨rfl, by go_grown⟩
theorem oppTall_any (x : Value) (h : Int) (w : World) : Calls Tryz.prog 197 #[.agg #[x, .int .i64 h]] w fun e w' => e = .returned (.int .i64 h) ∧ Below w.heap.size w w' := by
 go_enter Tryz.func197, Tryz.ntmps197
 go_wp2
 go_ret
 exact ⟨rfl, by go_grown⟩
theorem pairTall_any (x y : Value) (h : Int) (w : World) : Calls Tryz.prog 184 #[.agg #[x, y, .int .i64 h]] w fun e w' => e = .returned (.int .i64 h) ∧ Below w.heap.size w w' := by
 go_enter Tryz.func184, Tryz.ntmps184
 go_wp2
 go_ret
 exact ⟨rfl, by go_grown⟩
structure TallName (name : String) : Prop where
 c0 : ∀ w, (callMethod (.iface 210 (.agg #[])) name #[]).run Tryz.prog w = .ok (.enter 180 #[.agg #[]]) w
 c1 : ∀ n w, (callMethod (.iface 236 (.agg #[.string n])) name #[]).run Tryz.prog w = .ok (.enter 180 #[.agg #[]]) w
 c2 : ∀ n v w, (callMethod (.iface 238 (.agg #[.string n, .string v])) name #[]).run Tryz.prog w = .ok (.enter 180 #[.agg #[]]) w
 c3 : ∀ x h w, (callMethod (.iface 232 (.agg #[x, .int .i64 h])) name #[]).run Tryz.prog w = .ok (.enter 197 #[.agg #[x, .int .i64 h]]) w
 c4 : ∀ x y h w, (callMethod (.iface 230 (.agg #[x, y, .int .i64 h])) name #[]).run Tryz.prog w = .ok (.enter 184 #[.agg #[x, y, .int .i64 h]]) w
 c5 : ∀ x y h w, (callMethod (.iface 228 (.agg #[x, y, .int .i64 h])) name #[]).run Tryz.prog w = .ok (.enter 184 #[.agg #[x, y, .int .i64 h]]) w
theorem val_iface {t : P.Tr} (hw : P.wf t) : ∃ ty v, val t = .iface ty v := by
 rcases P.wf_cases hw with rfl | ⟨n, rfl⟩ | ⟨n, v, rfl⟩ | ⟨k, hk, rfl⟩ | ⟨a, b, ha, hb, rfl⟩ | ⟨a, b, ha, hb, rfl⟩
 ·exact ⟨_, _, val_non⟩
 ·exact ⟨_, _, val_nm _⟩
 ·exact ⟨_, _, val_vl _ _⟩
 ·exact ⟨_, _, val_nt _⟩
 ·exact ⟨_, _, val_an _ _⟩
 ·exact ⟨_, _, val_or _ _⟩
theorem tall_meth {name : String} (H : TallName name) {t : P.Tr} (hw : P.wf t) {x : Value} (hx : Hid (val t = x)) (w : World) : Meth Tryz.prog x name #[] w fun u w' => u = .int .i64 (P.tall t : Int) ∧ Below w.heap.size w w' := by
 rw [← hx.out]
 rcases P.wf_cases hw with rfl | ⟨n, rfl⟩ | ⟨n, v, rfl⟩ | ⟨k, hk, rfl⟩ | ⟨a, b, ha, hb, rfl⟩ | ⟨a, b, ha, hb, rfl⟩
 ·exact ⟨_, _, H.c0 w, (leafTall_any w).mono fun e w' ⟨he, hb⟩ => ⟨_, he, rfl, hb⟩⟩
 ·exact ⟨_, _, H.c1 n w, (leafTall_any w).mono fun e w' ⟨he, hb⟩ => ⟨_, he, rfl, hb⟩⟩
 ·exact ⟨_, _, H.c2 n v w, (leafTall_any w).mono fun e w' ⟨he, hb⟩ => ⟨_, he, rfl, hb⟩⟩
 ·refine ⟨_, _, H.c3 _ _ w, (oppTall_any _ _ w).mono fun e w' ⟨he, hb⟩ => ⟨_, he, ?_, hb⟩⟩
  rw [P.tall_nt]; congr 1
 ·exact ⟨_, _, H.c4 _ _ _ w, (pairTall_any _ _ _ w).mono fun e w' ⟨he, hb⟩ => ⟨_, he, rfl, hb⟩⟩
 ·exact ⟨_, _, H.c5 _ _ _ w, (pairTall_any _ _ _ w).mono fun e w' ⟨he, hb⟩ => ⟨_, he, rfl, hb⟩⟩
set_option maxHeartbeats 1000000 in
theorem negate_any (t : P.Tr) (hw : P.wf t) (ht : P.tall t ≤ 1000) (w : World) :
  Calls Tryz.prog 159 #[val t] w fun e w' => e = .returned (val (P.ntT t)) ∧ Below w.heap.size w w' := by
 rw [val_nt]
 obtain ⟨ty, v, hv⟩ := val_iface hw
 rw [hv]
 have HV : Hid (val t = .iface ty v) := hv
 clear hv
 go_enter Tryz.func159, Tryz.ntmps159
 go_wp2_with (refine wpList_meth rfl (.tmp 4) _ #[] #[] rfl _ rfl #[] (map_none _) _ (tall_meth ⟨fun _ => by kernel_rfl, fun _ _ => by kernel_rfl, fun _ _ _ => by kernel_rfl, fun _ _ _ => by kernel_rfl, fun _ _ _ _ => by kernel_rfl, fun _ _ _ _ => by kernel_rfl⟩ hw HV _) ?_; rintro u w1 ⟨rfl, hb⟩)
 go_ret
 exact ⟨rfl, hb⟩
theorem pair_cells {w w1 w2 : World} (hb : Below (w.alloc (Obj.cells #[Value.nilIface, Value.nilIface, Value.int IntKind.i64 0] 225)).heap.size (w.alloc (Obj.cells #[Value.nilIface, Value.nilIface, Value.int IntKind.i64 0] 225)) w1)
  (hb2 : Below w1.heap.size w1 w2) : w2.cell? ⟨w.heap.size, 0, none⟩ = some .nilIface ∧ w2.cell? ⟨w.heap.size, 1, none⟩ = some .nilIface ∧ w2.cell? ⟨w.heap.size, 2, none⟩ = some (.int .i64 0) ∧
   w2.frozen? ⟨w.heap.size, 0, none⟩ = false ∧ w2.frozen? ⟨w.heap.size, 1, none⟩ = false ∧ w2.frozen? ⟨w.heap.size, 2, none⟩ = false := by
 have B := hb.trans (hb2.mono hb.size)
 have hlt : w.heap.size < (w.alloc (Obj.cells #[Value.nilIface, Value.nilIface, Value.int IntKind.i64 0] 225)).heap.size := by simp
 refine ⟨?_, ?_, ?_, ?_, ?_, ?_⟩
 ·rw [B.cell (p := ⟨w.heap.size, 0, none⟩) hlt]; simp
 ·rw [B.cell (p := ⟨w.heap.size, 1, none⟩) hlt]; simp
 ·rw [B.cell (p := ⟨w.heap.size, 2, none⟩) hlt]; simp
 ·rw [B.frozen (p := ⟨w.heap.size, 0, none⟩) hlt]; simp
 ·rw [B.frozen (p := ⟨w.heap.size, 1, none⟩) hlt]; simp
 ·rw [B.frozen (p := ⟨w.heap.size, 2, none⟩) hlt]; simp
set_option maxHeartbeats 1000000 in
theorem pairOf_any (s t : P.Tr) (hs : P.wf s) (ht : P.wf t) (hs' : P.tall s ≤ 1000) (ht' : P.tall t ≤ 1000) (w : World) :
  Calls Tryz.prog 158 #[val s, val t] w fun e w' => e = .returned (.agg #[val s, val t, .int .i64 (tops s t)]) ∧ Below w.heap.size w w' := by
 obtain ⟨ty, v, hv⟩ := val_iface hs
 obtain ⟨ty', v', hv'⟩ := val_iface ht
 rw [hv, hv']
 have HV : Hid (val s = .iface ty v) := hv
 have HV' : Hid (val t = .iface ty' v') := hv'
 clear hv hv'
 have e : Hid (tops s t = max ((P.tall s : Nat) : Int) ((P.tall t : Nat) : Int) + 1) := by show _ = _; unfold tops; omega
 by_cases hlt : P.tall s < P.tall t
 all_goals
  go_enter Tryz.func158, Tryz.ntmps158
  go_wp2_with (first
   | (refine wpList_meth rfl (.tmp 7) _ #[] #[] rfl _ rfl #[] (map_none _) _ (tall_meth ⟨fun _ => by kernel_rfl, fun _ _ => by kernel_rfl, fun _ _ _ => by kernel_rfl, fun _ _ _ => by kernel_rfl, fun _ _ _ _ => by kernel_rfl, fun _ _ _ _ => by kernel_rfl⟩ hs HV _) ?_; rintro u w1 ⟨rfl, hb⟩)
   | (refine wpList_meth rfl (.tmp 9) _ #[] #[] rfl _ rfl #[] (map_none _) _ (tall_meth ⟨fun _ => by kernel_rfl, fun _ _ => by kernel_rfl, fun _ _ _ => by kernel_rfl, fun _ _ _ => by kernel_rfl, fun _ _ _ _ => by kernel_rfl, fun _ _ _ _ => by kernel_rfl⟩ ht HV' _) ?_; rintro u w2 ⟨rfl, hb2⟩; obtain ⟨c0, c1, c2, f0, f1, f2⟩ := pair_cells hb hb2))
  have hB : Below w.heap.size w w2 := ((Below.refl _ w).alloc nL _).trans ((hb.trans (hb2.mono hb.size)).mono (by simp))
  refine bodyPost_ret (v := .agg #[.iface ty v, .iface ty' v', .int .i64 (tops s t)]) ?_ rfl ⟨rfl, ?_⟩
  ·first
    | (rw [show tops s t = (P.tall t : Int) + 1 by rw [e.out]; omega]; simp [results, Tryz.results158, go_sem, c0, c1, c2]; done)
    | (rw [show tops s t = (P.tall s : Int) + 1 by rw [e.out]; omega]; simp [results, Tryz.results158, go_sem, c0, c1, c2]; done)
  ·exact ((hB.setCell nL _).setCell nL _).setCell nL _
set_option maxHeartbeats 400000 in
theorem joinBoth_any (s t : P.Tr) (hs : P.wf s) (ht : P.wf t) (hs' : P.tall s ≤ 1000) (ht' : P.tall t ≤ 1000) (w : World) :
  Calls Tryz.prog 157 #[val s, val t] w fun e w' => e = .returned (val (P.anT s t)) ∧ Below w.heap.size w w' := by
 rw [val_an]
 obtain ⟨ty, v, hv⟩ := val_iface hs
 obtain ⟨ty', v', hv'⟩ := val_iface ht
 have c := fun w => pairOf_any s t hs ht hs' ht' w
 rw [hv, hv'] at c
 rw [hv, hv']
 have C : Hid _ := c
 clear c hv hv'
 go_enter Tryz.func157, Tryz.ntmps157
 go_wp2_with fail
 refine (C.out _).mono ?_
 rintro e w1 ⟨rfl, hb⟩
 go_wp2_with fail
 go_ret
 exact ⟨rfl, hb⟩
set_option maxHeartbeats 400000 in
theorem joinEither_any (s t : P.Tr) (hs : P.wf s) (ht : P.wf t) (hs' : P.tall s ≤ 1000) (ht' : P.tall t ≤ 1000) (w : World) :
  Calls Tryz.prog 152 #[val s, val t] w fun e w' => e = .returned (val (P.orT s t)) ∧ Below w.heap.size w w' := by
 rw [val_or]
 obtain ⟨ty, v, hv⟩ := val_iface hs
 obtain ⟨ty', v', hv'⟩ := val_iface ht
 have c := fun w => pairOf_any s t hs ht hs' ht' w
 rw [hv, hv'] at c
 rw [hv, hv']
 have C : Hid _ := c
 clear c hv hv'
 go_enter Tryz.func152, Tryz.ntmps152
 go_wp2_with fail
 refine (C.out _).mono ?_
 rintro e w1 ⟨rfl, hb⟩
 go_wp2_with fail
 go_ret
 exact ⟨rfl, hb⟩
end Go.Proofs.YtebfdgfhadpieaaGreat
