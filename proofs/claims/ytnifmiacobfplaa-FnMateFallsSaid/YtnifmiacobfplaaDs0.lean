import Derived.Test.YtnifmiacobfplaaDqb
import Derived.Test.YtnifmiacobfplaaDr5
import Derived.Deep.RegionHeld3
namespace Go.Proofs.Ytnifmiacobfplaa
open Go.RowKit

theorem strAt2 (a b : ByteArray) (v : Nat) (h : (v : Int) < 2) (ha : a.size ≤ 100) (hb : b.size ≤ 100) : ∃ s : ByteArray, (#[.string a, .string b] : Array Value)[v]? = some (.string s) ∧ s.size ≤ 100 := by
 rcases (by omega : v = 0 ∨ v = 1) with rfl | rfl
 ·exact ⟨_, rfl, ha⟩
 ·exact ⟨_, rfl, hb⟩
theorem strAt4 (a b c d : ByteArray) (v : Nat) (h : (v : Int) < 4) (ha : a.size ≤ 100) (hb : b.size ≤ 100) (hc : c.size ≤ 100) (hd : d.size ≤ 100) : ∃ s : ByteArray, (#[.string a, .string b, .string c, .string d] : Array Value)[v]? = some (.string s) ∧ s.size ≤ 100 := by
 rcases (by omega : v = 0 ∨ v = 1 ∨ v = 2 ∨ v = 3) with rfl | rfl | rfl | rfl
 ·exact ⟨_, rfl, ha⟩
 ·exact ⟨_, rfl, hb⟩
 ·exact ⟨_, rfl, hc⟩
 ·exact ⟨_, rfl, hd⟩
theorem intAt4 (a b c d : Int) (v : Nat) (h : (v : Int) < 4) : ∃ r : Int, (#[.int .i64 a, .int .i64 b, .int .i64 c, .int .i64 d] : Array Value)[v]? = some (.int .i64 r) := by
 rcases (by omega : v = 0 ∨ v = 1 ∨ v = 2 ∨ v = 3) with rfl | rfl | rfl | rfl <;> exact ⟨_, rfl⟩

theorem rvR_app : ∀ (xs ys : List Rn), rvRn (xs ++ ys) = rvRn xs ++ rvRn ys
 | [], _ => rfl
 | x :: r, ys => by simp only [List.cons_append, rvRn, rvR_app r ys, List.append_assoc]

theorem wp_append_at {P : Program} {op : Oper} {a : Act} {w : World} {K : Act → World → Prop} {Q : Exit → Act → World → Prop} (s x : Operand) (t : TypeId)
  (ho : op.op = .call { callee := .builtin .append, args := #[s, x], argTypes := #[t, t] })
  (base : Nat) (e : TypeId) (i : TypeInfo) (z : Value) (size bytes : Nat) (ht : P.underlying t = some (.slice e)) (hi : P.info? e = some i) (hz : i.zero = some z)
  (hsize : i.size = size) (hby : i.bytes = bytes) (hzs : z.cells.size = size) (hsz : 0 < size)
  (v : Value) (n : Nat) (xs : List Value) (hs : a.eval s = v) (hown : w.ownsRow base e size v n xs)
  (ad : Addr) (m c : Nat) (news : List Value) (hx : a.eval x = .slice (some ad) m c) (hl : news.length = m * size) (hnews : ∀ j u, news[j]? = some u → w.cell? (ad.add j) = some u) (h1 : ∀ u ∈ news, u.oneCell' = true)
  (h63 : n + m ≤ maxLen) (hbytes : (n + m) * bytes ≤ 140737488355328) (hbase : base ≤ w.heap.size)
  (h : ∀ v' w', w'.ownsRow base e size v' (n + m) (xs ++ news) → w.grownBy w' v.ownBlock → (v' = .slice none 0 0 ↔ v = .slice none 0 0 ∧ m = 0) → (v'.ownBlock = v.ownBlock ∨ v'.ownBlock = some w.heap.size) → K (a.put op.dst v') w') : op.wp P a w K Q := by
 obtain ⟨v', w', hr, h2, h3, h4, h5⟩ := run_append_own_at (P := P) w base t op.type e i z size bytes ht hi hz hsize hby hzs hsz v n xs hown ad m c news hl hnews h1 h63 hbytes hbase
 unfold Oper.wp
 simp [execOp, ho, resolve, invoke, builtin, hs, hx, hr, Result.andThen]
 exact h v' w' h2 h3 h4 h5

set_option maxHeartbeats 4000000 in
set_option maxRecDepth 100000 in
theorem pick_none (p K : Nat) (w : World) (hR : RdS p K w) (hK : K ≤ 1000000) :
  Calls Try.prog 17 #[.pointer (some ⟨p, 0, none⟩), .int .i64 0] w fun e w' => e = .returned (.int .i64 0) ∧ RdS p (K + 1) w' ∧ Bt p w.heap.size w w' := by
 obtain ⟨xs, a, cap, hin, hX, hl⟩ := hR
 have k1 : w.cell? ⟨p, 1, none⟩ = some (.int .i64 (K : Int)) := hX.cell rfl
 have f1 : w.frozen? ⟨p, 1, none⟩ = false := hX.frozen _
 have hb : Bt p w.heap.size w (w.setCell ⟨p, 1, none⟩ (.int .i64 ((K : Int) + 1))) := (Bt.refl p _ w).set 1 _
 have HB := Hid.intro hb
 have HRR : Hid (RdS p (K + 1) (w.setCell ⟨p, 1, none⟩ (.int .i64 ((K : Int) + 1)))) := ⟨xs, a, cap, hin.bt hb (Nat.le_of_lt hX.lt), by simpa using hX.set 1 (.int .i64 ((K : Int) + 1)), hl⟩
 clear hin hX hb
 go_enter Try.func17, Try.ntmps17
 go_wp2_with fail
 go_ret
 exact ⟨rfl, HRR.out, HB.out⟩

theorem pick_len (p K n : Nat) (w : World) (hR : RdS p K w) (hK : K ≤ 1000000) (hn : n ≤ 1000000) :
  Calls Try.prog 17 #[.pointer (some ⟨p, 0, none⟩), .int .i64 (n : Int)] w fun e w' => ∃ v : Nat, e = .returned (.int .i64 (v : Int)) ∧ (0 < n → v < n) ∧ v ≤ n ∧ RdS p (K + 1) w' ∧ Bt p w.heap.size w w' := by
 rcases Nat.eq_zero_or_pos n with rfl | h0
 ·refine (pick_none p K w hR hK).mono ?_
  rintro e w' ⟨rfl, hr, hb⟩
  exact ⟨0, rfl, fun h => absurd h (Nat.lt_irrefl _), Nat.le_refl _, hr, hb⟩
 ·refine (pick_rd p K (n : Int) w hR hK (by omega) (by omega)).mono ?_
  rintro e w' ⟨v, rfl, hv, hr, hb, -⟩
  exact ⟨v, rfl, fun _ => by omega, by omega, hr, hb⟩

end Go.Proofs.Ytnifmiacobfplaa
