/-
  Books one behind the other, by the library's own functions: slices.Grow, Concat, IsSortedFunc. Made by mkswi.py.
-/
import Derived.Test.YtnkggfnblcadoaaSwd
import Derived.Test.YtnkggfnblcadoaaSi1
import Derived.Test.YtnkggfnblcadoaaBls
import Derived.Deep.RegionHeld3
import Derived.Laws.OwnMore
import Derived.Lib.AppendZeros
import Derived.Lib.Walk
import Derived.Lib.SliceRun
namespace Go.Proofs.Ytnkggfnblcadoaa
open Go.RowKit

/-- a book's cells -/
structure Brw where
  now : Int
  s1 : Option Addr
  m1 : Nat
  k1 : Nat
  s2 : Option Addr
  m2 : Nat
  k2 : Nat
  s3 : Option Addr
  m3 : Nat
  k3 : Nat

def rcB (x : Brw) : List Value := [.int .i64 x.now, .slice x.s1 x.m1 x.k1, .slice x.s2 x.m2 x.k2, .slice x.s3 x.m3 x.k3]
def rvB : List Brw → List Value
  | [] => []
  | x :: r => rcB x ++ rvB r

theorem rcB_len (x : Brw) : (rcB x).length = 4 := rfl
theorem rvB_len : ∀ xs : List Brw, (rvB xs).length = xs.length * 4
  | [] => rfl
  | x :: r => by
    have := rvB_len r
    simp only [rvB, List.length_append, List.length_cons, rcB_len]
    omega

theorem rvB_at : ∀ (xs : List Brw) (k : Nat) (x : Brw) (j : Nat), xs[k]? = some x → j < 4 → (rvB xs)[k * 4 + j]? = (rcB x)[j]?
  | [], _, _, _, h, _ => by simp at h
  | y :: r, 0, x, j, h, hj => by
    simp at h
    subst h
    simp only [rvB]
    rw [List.getElem?_append_left (by rw [rcB_len]; omega)]
    simp
  | y :: r, k + 1, x, j, h, hj => by
    simp at h
    simp only [rvB]
    rw [List.getElem?_append_right (by rw [rcB_len]; omega), rcB_len, show (k + 1) * 4 + j - 4 = k * 4 + j by omega]
    exact rvB_at r k x j h hj

theorem rcB_one (x : Brw) : ∀ v ∈ rcB x, v.oneCell' = true := by
  intro v hv
  simp only [rcB, List.mem_cons, List.not_mem_nil, or_false] at hv
  rcases hv with rfl | rfl | rfl | rfl <;> rfl

theorem rvB_one : ∀ (xs : List Brw), ∀ u ∈ rvB xs, u.oneCell' = true
  | [], u, h => by cases h
  | x :: r, u, h => by
    simp only [rvB, List.mem_append] at h
    rcases h with h | h
    · exact rcB_one x u h
    · exact rvB_one r u h

theorem rvB_app : ∀ (xs ys : List Brw), rvB (xs ++ ys) = rvB xs ++ rvB ys
  | [], _ => rfl
  | x :: r, ys => by simp only [List.cons_append, rvB, rvB_app r ys, List.append_assoc]

theorem rows_of {lo b : Nat} {w : World} : ∀ (xs : List Sbk) (o : Nat), (∀ j x, xs[j]? = some x → SbkC lo w (fun i => w.cell? ⟨b, o + j * 4 + i, none⟩) x) → ∃ rs : List Brw, rs.map (·.now) = xs.map (·.now) ∧ ∀ j u, (rvB rs)[j]? = some u → w.cell? ⟨b, o + j, none⟩ = some u
  | [], _, _ => ⟨[], rfl, fun j u h => by simp [rvB] at h⟩
  | x :: r, o, h => by
    obtain ⟨rs, h1, h2⟩ := rows_of r (o + 4) (fun j y hj => by
      have := h (j + 1) y (by simpa using hj)
      rw [show o + (j + 1) * 4 = o + 4 + j * 4 by omega] at this
      exact this)
    obtain ⟨d1, e1, d2, e2, d3, e3, q0, q1, q2, q3, _, _, _⟩ := h 0 x rfl
    simp only [Nat.zero_mul, Nat.add_zero] at q0 q1 q2 q3
    refine ⟨⟨x.now, d1, x.services.length, e1, d2, x.copies.length, e2, d3, x.berths.length, e3⟩ :: rs, by simp [h1], fun j u hu => ?_⟩
    by_cases hj : j < 4
    · rw [rvB, List.getElem?_append_left (by rw [rcB_len]; omega)] at hu
      have hc : j = 0 ∨ j = 1 ∨ j = 2 ∨ j = 3 := by omega
      rcases hc with rfl | rfl | rfl | rfl <;> (cases hu; assumption)
    · rw [rvB, List.getElem?_append_right (by rw [rcB_len]; omega), rcB_len] at hu
      have := h2 (j - 4) u hu
      rwa [show o + 4 + (j - 4) = o + j by omega] at this

theorem slice_rows {lo : Nat} {w : World} {a : Option Addr} {xs : List Sbk} (h : SliceC SbkC 4 lo w a xs) : ∃ rs : List Brw, rs.map (·.now) = xs.map (·.now) ∧ (a = none → xs.length = 0) ∧ ∀ ad, a = some ad → ∀ j u, (rvB rs)[j]? = some u → w.cell? (ad.add j) = some u := by
  rcases h.2 with rfl | ⟨b, o, rfl, _, _, h3⟩
  · exact ⟨[], rfl, fun _ => rfl, fun _ _ j u h => by simp [rvB] at h⟩
  · obtain ⟨rs, h1, h2⟩ := rows_of (b := b) xs o h3
    refine ⟨rs, h1, (fun h => by cases h), fun ad e j u hu => ?_⟩
    cases e
    rw [Addr.add_mid]
    exact h2 j u hu

theorem run_append_none_anyB {P : Program} {w : World} (base : Nat) (t ty e : TypeId) (i : TypeInfo) (size c : Nat) (ht : P.underlying t = some (.slice e)) (hi : P.info? e = some i)
    (v : Value) (n : Nat) (xs : List Value) (hown : w.ownsRow base e size v n xs) :
    (Builtin.append_ #[t, t] ty #[v, .slice none 0 c]).run P w = .ok v w := by
  rcases hown.2 with ⟨rfl, rfl⟩ | ⟨g, cap, cur, rfl, _, _, hnc, _⟩
  · simp [Builtin.append_, run_underlying ht, sizeOf, typeInfo, hi, Builtin.lenOf, Builtin.firstCells]
  · simp [Builtin.append_, run_underlying ht, sizeOf, typeInfo, hi, Builtin.lenOf, Builtin.firstCells, hnc, storeCells]

theorem wpList_append_anyB {P : Program} {w : World} {ops : Array Oper} {rest : List Oper} {o : Oper} {a : Act} {Q : Exit → Act → World → Prop} (hgd : o.guard = none) (s x : Operand) (t : TypeId)
    (ho : o.op = .call { callee := .builtin .append, args := #[s, x], argTypes := #[t, t] })
    (base : Nat) (e : TypeId) (i : TypeInfo) (z : Value) (size bytes : Nat) (ht : P.underlying t = some (.slice e)) (hi : P.info? e = some i) (hz : i.zero = some z)
    (hsize : i.size = size) (hby : i.bytes = bytes) (hzs : z.cells.size = size) (hsz : 0 < size)
    (v : Value) (n : Nat) (xs : List Value) (hs : a.eval s = v) (hown : w.ownsRow base e size v n xs)
    (ao : Option Addr) (m c : Nat) (news : List Value) (hx : a.eval x = .slice ao m c) (hno : ao = none → m = 0) (hl : news.length = m * size) (hnews : ∀ ad, ao = some ad → ∀ j u, news[j]? = some u → w.cell? (ad.add j) = some u) (h1 : ∀ u ∈ news, u.oneCell' = true)
    (h63 : n + m ≤ maxLen) (hbytes : (n + m) * bytes ≤ 140737488355328) (hbase : base ≤ w.heap.size)
    (h : ∀ v' w', w'.ownsRow base e size v' (n + m) (xs ++ news) → w.grownBy w' v.ownBlock → (v' = .slice none 0 0 ↔ v = .slice none 0 0 ∧ m = 0) → wpList P ops Q rest (a.put o.dst v') w') : wpList P ops Q (o :: rest) a w := by
  cases ao with
  | some ad => exact wpList_append_own w hgd s x t ho base e i z size bytes ht hi hz hsize hby hzs hsz v n xs hs hown ad m c news hx hl (hnews ad rfl) h1 h63 hbytes hbase h
  | none =>
    obtain rfl := hno rfl
    have hn : news = [] := List.length_eq_zero_iff.1 (by omega)
    subst hn
    have hrun := run_append_none_anyB (P := P) (w := w) base t o.type e i size c ht hi v n xs hown
    refine wpList_plain hgd fun K hK => ?_
    unfold Oper.wp
    simp [execOp, ho, resolve, invoke, builtin, hs, hx, hrun, Result.andThen]
    exact hK _ _ (h v w (by simpa using hown) ⟨rfl, rfl, rfl, Nat.le_refl _, fun _ _ _ => rfl⟩ (by simp))

theorem own_monoB {base base' : Nat} {e : TypeId} {size : Nat} {v : Value} {n : Nat} {xs : List Value} {w : World} (h : w.ownsRow base e size v n xs) (hb : base' ≤ base) : w.ownsRow base' e size v n xs := by
  refine ⟨h.1, ?_⟩
  rcases h.2 with h | ⟨g, cap, cur, h1, h2, h3⟩
  · exact .inl h
  · exact .inr ⟨g, cap, cur, h1, Nat.le_trans hb h2, h3⟩

theorem below_some {w w' : World} (hB : Below w.heap.size w w') {ad : Addr} {u : Value} (h : w.cell? ad = some u) : w'.cell? ad = some u := (hB.cell (p := ad) (World.block_lt_of_cell? w ad h)).trans h

theorem rowfB {base n : Nat} {w : World} {e : TypeId} {s : Nat} {cs : List Value} {v : Value} (h : w.ownsRow base e s v n cs) (hn : v ≠ .slice none 0 0) : ∃ g cap, v = .slice (some ⟨g, 0, none⟩) n cap := by
  rcases h.2 with ⟨h1, _⟩ | ⟨g', cap', cur, h1, _⟩
  · exact absurd h1 hn
  · exact ⟨g', cap', h1⟩

set_option maxHeartbeats 2000000 in
set_option maxRecDepth 100000 in
theorem growB_any (n : Nat) (w : World) (h0 : 0 < n) (h9 : n ≤ 9) :
    Calls Try.prog 54 #[.slice none 0 0, .int .i64 ((n : Nat) : Int)] w fun e w' => ∃ g G, e = .returned (.slice (some ⟨g, 0, none⟩) 0 G) ∧ w'.ownsRow w.heap.size 37 4 (.slice (some ⟨g, 0, none⟩) 0 G) 0 [] ∧ Below w.heap.size w w' := by
  obtain ⟨i0, hi, hz0, hz1, hz2⟩ := info_parts info_Sbk
  have hrz : ∀ ty, (Builtin.append_ #[32, 3] ty #[.slice none 0 0, .int .i64 ((n : Nat) : Int)]).run Try.prog w = .ok (.slice (some ⟨w.heap.size, 0, none⟩) n (grownCap w n 0 37)) (w.drew.alloc (.cells (Builtin.zeroCells (Value.cells (.agg #[.int .i64 0, .slice none 0 0, .slice none 0 0, .slice none 0 0])) n ++ Builtin.zeroCells (Value.cells (.agg #[.int .i64 0, .slice none 0 0, .slice none 0 0, .slice none 0 0])) (grownCap w n 0 37 - n)) 37)) := fun ty =>
    Lib.run_append_nil_zeros w 32 3 ty 37 i0 _ .i64 .i64 Try.underlying32 Try.underlying3 hi hz0 n h0 (by rw [hz1]; omega) (by omega) (by rw [hz2]; omega)
  obtain ⟨G, hG⟩ : ∃ G, G = grownCap w n 0 37 := ⟨_, rfl⟩
  rw [← hG] at hrz
  obtain ⟨ROW, hROW⟩ : ∃ ROW : Array Value, ROW = Builtin.zeroCells (Value.cells (.agg #[.int .i64 0, .slice none 0 0, .slice none 0 0, .slice none 0 0])) n ++ Builtin.zeroCells (Value.cells (.agg #[.int .i64 0, .slice none 0 0, .slice none 0 0, .slice none 0 0])) (G - n) := ⟨_, rfl⟩
  rw [← hROW] at hrz
  have hGn : n ≤ G := by rw [hG]; exact grownCap_ge w _ _ _
  have hGm : G ≤ maxLen := by rw [hG]; exact grownCap_le_maxLen w _ _ _ (by unfold maxLen; omega)
  have HRS : Hid (ROW.size = G * 4) := by
    show _ = _
    rw [hROW, Array.size_append, size_zeroCells, size_zeroCells]
    simp [Value.cells]
    omega
  have HGM := Hid.intro hGm
  have hG63 : G ≤ 9223372036854775807 := by unfold maxLen at hGm; omega
  clear hG hROW hi hz0 hz1 hz2 hGm
  go_enter Try.func54, Try.ntmps54
  go_wp2_with (at_builtin; refine Lib.wpList_append_run _ rfl _ _ _ _ rfl _ _ rfl rfl _ _ (hrz _) ?_)
  go_ret
  exact ⟨w.heap.size, G, rfl, World.ownsRow_made w.drew ROW G (Nat.le_refl _) HGM.out HRS.out, ((Below.refl _ w).drew).alloc (Nat.le_refl _) _⟩

set_option maxHeartbeats 4000000 in
set_option maxRecDepth 100000 in
theorem concatB_any (a0 : Option Addr) (n c0 b p : Nat) (rs : List Brw) (r : Brw) (w : World) (hn : rs.length = n) (h8 : n ≤ 8) (hnone : a0 = none → n = 0)
    (hsrc : ∀ ad, a0 = some ad → ∀ j u, (rvB rs)[j]? = some u → w.cell? (ad.add j) = some u) (hb : ∀ j u, (rcB r)[j]? = some u → w.cell? ⟨b, j, none⟩ = some u)
    (hp0 : w.cell? ⟨p, 0, none⟩ = some (.slice a0 n c0)) (hp1 : w.cell? ⟨p, 1, none⟩ = some (.slice (some ⟨b, 0, none⟩) 1 1)) :
    Calls Try.prog 46 #[.slice (some ⟨p, 0, none⟩) 2 2] w fun e w' => ∃ g G, e = .returned (.slice (some ⟨g, 0, none⟩) (n + 1) G) ∧ w'.ownsRow w.heap.size 37 4 (.slice (some ⟨g, 0, none⟩) (n + 1) G) (n + 1) (rvB (rs ++ [r])) ∧ Below w.heap.size w w' := by
  obtain ⟨i0, hi, hz0, hz1, hz2⟩ := info_parts info_Sbk
  have hpl : p < w.heap.size := block_lt_of_cell hp0
  have HN := Hid.intro hn
  have HNO := Hid.intro hnone
  have HS := Hid.intro hsrc
  have HBK := Hid.intro hb
  have HP0 := Hid.intro hp0
  have HP1 := Hid.intro hp1
  clear hn hnone hsrc hb hp0 hp1
  go_enter Try.func46, Try.ntmps46
  go_wp2_with fail
  go_loopw [3, 11] (fun s i wr => Below w.heap.size w wr ∧ ((i = .int .i64 0 ∧ s = .int .i64 0) ∨ (i = .int .i64 1 ∧ s = .int .i64 ((n : Nat) : Int)) ∨ (i = .int .i64 2 ∧ s = .int .i64 ((n + 1 : Nat) : Int)))) (fun _ i _ => 2 - (intOf i).toNat)
  case atStart => exact ⟨Below.refl _ _, .inl ⟨rfl, rfl⟩⟩
  case round =>
    obtain ⟨hB, hc⟩ := hrel
    rcases hc with ⟨rfl, rfl⟩ | ⟨rfl, rfl⟩ | ⟨rfl, rfl⟩
    · have c0' : wr.cell? ⟨p, 0, none⟩ = some (.slice a0 n c0) := (hB.cell (p := ⟨p, 0, none⟩) hpl).trans HP0.out
      have hn0 : ¬ ((n : Nat) : Int) < 0 := by omega
      go_wp2_with fail
      go_roundw
      case rel => exact ⟨hB, .inr (.inl ⟨by go_num, by first | rfl | go_num⟩)⟩
      case measure => simp [intOf]
    · have c1' : wr.cell? ⟨p, 1, none⟩ = some (.slice (some ⟨b, 0, none⟩) 1 1) := (hB.cell (p := ⟨p, 1, none⟩) hpl).trans HP1.out
      have hn0 : ¬ ((n : Nat) : Int) + 1 < 0 := by omega
      go_wp2_with fail
      go_roundw
      case rel => exact ⟨hB, .inr (.inr ⟨by go_num, by first | rfl | go_num⟩)⟩
      case measure => simp [intOf]
    go_upto_region 10 with (go_at_call 54; refine (growB_any (n + 1) _ (by omega) (by omega)).mono ?_; rintro e w2 ⟨g, G, rfl, hO, hb2⟩; have HO2 := Hid.intro hO; have hB2 := hB.trans (hb2.mono hB.size); have HL2 : Hid (w2.ownsRow w.heap.size 37 4 (.slice (some ⟨g, 0, none⟩) 0 G) 0 []) := own_monoB HO2.out hB.size; clear hO HO2 hb2)
    clear hB
    go_wp2_with fail
    go_loopw [6, 27] (fun v i wq => Below w.heap.size w wq ∧ ∃ g G, ((i = .int .i64 0 ∧ v = .slice (some ⟨g, 0, none⟩) 0 G ∧ Hid (wq.ownsRow w.heap.size 37 4 (.slice (some ⟨g, 0, none⟩) 0 G) 0 [])) ∨ (i = .int .i64 1 ∧ v = .slice (some ⟨g, 0, none⟩) n G ∧ Hid (wq.ownsRow w.heap.size 37 4 (.slice (some ⟨g, 0, none⟩) n G) n (rvB rs))) ∨ (i = .int .i64 2 ∧ v = .slice (some ⟨g, 0, none⟩) (n + 1) G ∧ Hid (wq.ownsRow w.heap.size 37 4 (.slice (some ⟨g, 0, none⟩) (n + 1) G) (n + 1) (rvB (rs ++ [r])))))) (fun _ i _ => 2 - (intOf i).toNat)
    case atStart => exact ⟨hB2, g, G, .inl ⟨rfl, rfl, HL2⟩⟩
    case round =>
      clear HL2 hB2
      obtain ⟨hB, g3, G3, hc⟩ := hrel
      rcases hc with ⟨rfl, rfl, HO⟩ | ⟨rfl, rfl, HO⟩ | ⟨rfl, rfl, HO⟩
      · have c0' : wr.cell? ⟨p, 0, none⟩ = some (.slice a0 n c0) := (hB.cell (p := ⟨p, 0, none⟩) hpl).trans HP0.out
        go_wp2_with (at_builtin; refine wpList_append_anyB rfl _ _ 32 rfl w.heap.size 37 i0 _ 4 80 Try.underlying32 hi hz0 hz1 hz2 rfl (by decide) _ _ _ rfl HO.out a0 n c0 (rvB rs) rfl HNO.out (by rw [rvB_len, HN.out]) (fun ad e j u hj => below_some hB (HS.out ad e j u hj)) (rvB_one rs) (by unfold maxLen; omega) (by omega) hB.size ?_; intro v' w5 hown hgrow hnil)
        have hv : v' ≠ .slice none 0 0 := (fun e => by have := (hnil.1 e).1; cases this)
        have HO5 : Hid (w5.ownsRow w.heap.size 37 4 v' n (rvB rs)) := (by show World.ownsRow _ _ _ _ _ _ _; simpa using hown)
        have hB5 : Below w.heap.size w w5 := hB.grown hgrow hB.size (by intro k hk; cases hk; exact (HO.out.lt g3 rfl).1)
        clear hown hgrow hnil
        obtain ⟨g5, G5, rfl⟩ := rowfB HO5.out hv
        clear hv
        go_roundw
        case rel => exact ⟨hB5, g5, G5, .inr (.inl ⟨by go_num, rfl, HO5⟩)⟩
        case measure => simp [intOf]
      · have c1' : wr.cell? ⟨p, 1, none⟩ = some (.slice (some ⟨b, 0, none⟩) 1 1) := (hB.cell (p := ⟨p, 1, none⟩) hpl).trans HP1.out
        go_wp2_with (at_builtin; refine wpList_append_anyB rfl _ _ 32 rfl w.heap.size 37 i0 _ 4 80 Try.underlying32 hi hz0 hz1 hz2 rfl (by decide) _ _ _ rfl HO.out (some ⟨b, 0, none⟩) 1 1 (rcB r) rfl (by intro h; cases h) rfl (fun ad e j u hj => by cases e; rw [Addr.add_lit]; exact below_some hB (by simpa using HBK.out j u hj)) (rcB_one r) (by unfold maxLen; omega) (by omega) hB.size ?_; intro v' w5 hown hgrow hnil)
        have hv : v' ≠ .slice none 0 0 := (fun e => by have := (hnil.1 e).1; cases this)
        have HO5 : Hid (w5.ownsRow w.heap.size 37 4 v' (n + 1) (rvB (rs ++ [r]))) := (by show World.ownsRow _ _ _ _ _ _ _; rw [rvB_app]; simpa [rvB] using hown)
        have hB5 : Below w.heap.size w w5 := hB.grown hgrow hB.size (by intro k hk; cases hk; exact (HO.out.lt g3 rfl).1)
        clear hown hgrow hnil
        obtain ⟨g5, G5, rfl⟩ := rowfB HO5.out hv
        clear hv
        go_roundw
        case rel => exact ⟨hB5, g5, G5, .inr (.inr ⟨by go_num, rfl, HO5⟩)⟩
        case measure => simp [intOf]
      · go_wp2_with fail
        go_ret
        exact ⟨g3, G3, rfl, HO.out, hB⟩

set_option maxHeartbeats 1000000 in
theorem riseF_any (x y : Brw) (w : World) :
    Calls Try.prog 47 #[.agg #[.int .i64 x.now, .slice x.s1 x.m1 x.k1, .slice x.s2 x.m2 x.k2, .slice x.s3 x.m3 x.k3], .agg #[.int .i64 y.now, .slice y.s1 y.m1 y.k1, .slice y.s2 y.m2 y.k2, .slice y.s3 y.m3 y.k3]] w fun e w' => e = .returned (.int .i64 (cmpI x.now y.now)) ∧ Below w.heap.size w w' := by
  have hB : Below w.heap.size w ((w.alloc (Obj.cells #[.int .i64 x.now, .slice x.s1 x.m1 x.k1, .slice x.s2 x.m2 x.k2, .slice x.s3 x.m3 x.k3] 37)).alloc (Obj.cells #[.int .i64 y.now, .slice y.s1 y.m1 y.k1, .slice y.s2 y.m2 y.k2, .slice y.s3 y.m3 y.k3] 37)) := by go_grown
  go_enter Try.func47, Try.ntmps47
  go_wp2_with (go_at_call 48; refine (cmpInt_any _ _ _).mono ?_; rintro e w' ⟨rfl, e9⟩; rw [e9]; clear e9 w')
  go_ret
  exact ⟨rfl, hB⟩

/-- numbers that do not fall -/
def Rises (ns : List Int) : Prop := ∀ (j : Nat) a b, ns[j]? = some a → ns[j + 1]? = some b → a ≤ b

set_option maxHeartbeats 4000000 in
set_option maxRecDepth 100000 in
theorem sortedB_any (rs : List Brw) (n g G base : Nat) (w : World) (hn : rs.length = n + 1) (h8 : n ≤ 8) (hO : w.ownsRow base 37 4 (.slice (some ⟨g, 0, none⟩) (n + 1) G) (n + 1) (rvB rs)) :
    Calls Try.prog 45 #[.slice (some ⟨g, 0, none⟩) (n + 1) G, .func (.func 47) #[] #[]] w fun e w' => ∃ t : Bool, e = .returned (.bool t) ∧ (t = true ↔ Rises (rs.map (·.now))) ∧ Below w.heap.size w w' := by
  have HN := Hid.intro hn
  have HO := Hid.intro hO
  have hgl := (hO.lt g rfl).2
  clear hn hO
  have hns : IntKind.i64.wrap (((n + 1 : Nat) : Int) - 1) = ((n : Nat) : Int) := by rw [IntKind.wrap_i64]; omega
  go_enter Try.func45, Try.ntmps45
  go_wp2_with fail
  go_loopw [5] (fun i wr => ∃ k : Nat, k ≤ n ∧ i = .int .i64 ((k : Nat) : Int) ∧ Hid (∀ (j : Nat) x y, k ≤ j → rs[j]? = some x → rs[j + 1]? = some y → x.now ≤ y.now) ∧ Below w.heap.size w wr) (fun i _ => (intOf i).toNat)
  case atStart => exact ⟨n, Nat.le_refl _, by first | rfl | go_num, (fun j x y hj _ hy => by have := lt_of_some hy; have := HN.out; omega), Below.refl _ _⟩
  case round =>
    clear hns
    obtain ⟨k, hk, rfl, hI, hB⟩ := hrel
    cases k with
    | zero =>
      have HE : Hid (Rises (rs.map (·.now))) := fun j a b ha hb => by
        simp only [List.getElem?_map, Option.map_eq_some_iff] at ha hb
        obtain ⟨x, hx, rfl⟩ := ha
        obtain ⟨y, hy, rfl⟩ := hb
        exact hI.out j x y (Nat.zero_le _) hx hy
      go_wp2_with fail
      go_ret
      exact ⟨true, rfl, by simp [HE.out], hB⟩
    | succ m =>
      obtain ⟨x, hx⟩ : ∃ x, rs[m + 1]? = some x := ⟨rs[m + 1]'(by have := HN.out; omega), List.getElem?_eq_getElem (by have := HN.out; omega)⟩
      obtain ⟨y, hy⟩ : ∃ y, rs[m]? = some y := ⟨rs[m]'(by have := HN.out; omega), List.getElem?_eq_getElem (by have := HN.out; omega)⟩
      have HX := Hid.intro hx
      have HY := Hid.intro hy
      clear hx hy
      have hw1 : IntKind.i64.wrap (((m + 1 : Nat) : Int) - 1) = ((m : Nat) : Int) := by rw [IntKind.wrap_i64]; omega
      have hwm : IntKind.i64.wrap ((m : Nat) : Int) = ((m : Nat) : Int) := by rw [IntKind.wrap_i64]; omega
      have hmp : (0 : Int) < ((m + 1 : Nat) : Int) := by omega
      have hm9 : m + 1 ≤ 8 := by omega
      obtain ⟨C, hC⟩ : ∃ C, cmpI x.now y.now = C := ⟨_, rfl⟩
      have HC := Hid.intro hC
      have HCC : Hid (C < 0 ↔ x.now < y.now) := by
        show _ ↔ _
        rw [← hC]
        unfold cmpI
        split
        · simp; omega
        · split
          · simp; omega
          · simp; omega
      clear hC
      go_upto_region 4 with fail
      refine wp_region_held_drew (S := fun wy => wy.ownsRow base 37 4 (.slice (some ⟨g, 0, none⟩) (n + 1) G) (n + 1) (rvB rs) ∧ Below w.heap.size w wy) (by kernel_rfl) ⟨ownsRow_below HO.out hB.drew, hB.drew⟩ (fun hS => ?_)
      clear hB
      generalize wr.drew = wa at *
      refine wpAnyH_take (i := 0) (oi := { dst := some 13, op := _, type := _, pos := _, after := _, guard := none }) (v := .func (.func 47) #[] #[]) rfl (by kernel_rfl) (by kernel_rfl) (by kernel_rfl) (fun _ _ _ h => h) (Or.inl ⟨by rfl, ?_⟩) hS ?_
      · intro wy hy
        clear hy
        go_simp
      simp only [Act.put, List.setIfInBounds_toArray, List.set_cons_zero, List.set_cons_succ]
      refine wpAnyH_take (i := 1) (oi := { dst := some 14, op := _, type := _, pos := _, after := _, guard := none }) (v := .slice (some ⟨g, 0, none⟩) (n + 1) G) rfl (by kernel_rfl) (by kernel_rfl) (by kernel_rfl) (fun _ _ _ h => h) (Or.inl ⟨by rfl, ?_⟩) hS ?_
      · intro wy hy
        clear hy
        go_simp
      simp only [Act.put, List.setIfInBounds_toArray, List.set_cons_zero, List.set_cons_succ]
      refine wpAnyH_take (i := 2) (oi := { dst := some 15, op := _, type := _, pos := _, after := _, guard := none }) (v := .int .i64 ((m + 1 : Nat) : Int)) rfl (by kernel_rfl) (by kernel_rfl) (by kernel_rfl) (fun _ _ _ h => h) (Or.inl ⟨by rfl, ?_⟩) hS ?_
      · intro wy hy
        clear hy
        go_simp
      simp only [Act.put, List.setIfInBounds_toArray, List.set_cons_zero, List.set_cons_succ]
      refine wpAnyH_take (i := 3) (oi := { dst := some 16, op := _, type := _, pos := _, after := _, guard := none }) (v := .pointer (some ⟨g, (m + 1) * 4, none⟩)) rfl (by kernel_rfl) (by kernel_rfl) (by kernel_rfl) (fun _ _ _ h => h) (Or.inl ⟨by rfl, ?_⟩) hS ?_
      · intro wy hy
        clear hy
        (go_simp; try omega)
      simp only [Act.put, List.setIfInBounds_toArray, List.set_cons_zero, List.set_cons_succ]
      refine wpAnyH_take (i := 4) (oi := { dst := some 17, op := _, type := _, pos := _, after := _, guard := none }) (v := .agg #[.int .i64 x.now, .slice x.s1 x.m1 x.k1, .slice x.s2 x.m2 x.k2, .slice x.s3 x.m3 x.k3]) rfl (by kernel_rfl) (by kernel_rfl) (by kernel_rfl) (fun _ _ _ h => h) (yieldsIf_load_mid (by rfl) _ _ rfl g ((m + 1) * 4) rfl [.int .i64 x.now, .slice x.s1 x.m1 x.k1, .slice x.s2 x.m2 x.k2, .slice x.s3 x.m3 x.k3] _ (fun _ h => (fun j v hj => (h.1.cellAt ((m + 1) * 4 + j) (by have : j < 4 := lt_of_some hj; omega)).trans ((rvB_at rs (m + 1) x j HX.out (lt_of_some hj)).trans hj))) Try.underlying37 rfl isz_Sbk) hS ?_
      simp only [Act.put, List.setIfInBounds_toArray, List.set_cons_zero, List.set_cons_succ]
      refine wpAnyH_take (i := 5) (oi := { dst := some 18, op := _, type := _, pos := _, after := _, guard := none }) (v := .slice (some ⟨g, 0, none⟩) (n + 1) G) rfl (by kernel_rfl) (by kernel_rfl) (by kernel_rfl) (fun _ _ _ h => h) (Or.inl ⟨by rfl, ?_⟩) hS ?_
      · intro wy hy
        clear hy
        go_simp
      simp only [Act.put, List.setIfInBounds_toArray, List.set_cons_zero, List.set_cons_succ]
      refine wpAnyH_take (i := 6) (oi := { dst := some 19, op := _, type := _, pos := _, after := _, guard := none }) (v := .int .i64 ((m + 1 : Nat) : Int)) rfl (by kernel_rfl) (by kernel_rfl) (by kernel_rfl) (fun _ _ _ h => h) (Or.inl ⟨by rfl, ?_⟩) hS ?_
      · intro wy hy
        clear hy
        go_simp
      simp only [Act.put, List.setIfInBounds_toArray, List.set_cons_zero, List.set_cons_succ]
      refine wpAnyH_take (i := 7) (oi := { dst := some 20, op := _, type := _, pos := _, after := _, guard := none }) (v := .int .i64 ((m : Nat) : Int)) rfl (by kernel_rfl) (by kernel_rfl) (by kernel_rfl) (fun _ _ _ h => h) (Or.inl ⟨by rfl, ?_⟩) hS ?_
      · intro wy hy
        clear hy
        go_simp
      simp only [Act.put, List.setIfInBounds_toArray, List.set_cons_zero, List.set_cons_succ]
      refine wpAnyH_take (i := 8) (oi := { dst := some 21, op := _, type := _, pos := _, after := _, guard := none }) (v := .pointer (some ⟨g, m * 4, none⟩)) rfl (by kernel_rfl) (by kernel_rfl) (by kernel_rfl) (fun _ _ _ h => h) (Or.inl ⟨by rfl, ?_⟩) hS ?_
      · intro wy hy
        clear hy
        (go_simp; try omega)
      simp only [Act.put, List.setIfInBounds_toArray, List.set_cons_zero, List.set_cons_succ]
      refine wpAnyH_take (i := 9) (oi := { dst := some 22, op := _, type := _, pos := _, after := _, guard := none }) (v := .agg #[.int .i64 y.now, .slice y.s1 y.m1 y.k1, .slice y.s2 y.m2 y.k2, .slice y.s3 y.m3 y.k3]) rfl (by kernel_rfl) (by kernel_rfl) (by kernel_rfl) (fun _ _ _ h => h) (yieldsIf_load_mid (by rfl) _ _ rfl g (m * 4) rfl [.int .i64 y.now, .slice y.s1 y.m1 y.k1, .slice y.s2 y.m2 y.k2, .slice y.s3 y.m3 y.k3] _ (fun _ h => (fun j v hj => (h.1.cellAt (m * 4 + j) (by have : j < 4 := lt_of_some hj; omega)).trans ((rvB_at rs m y j HY.out (lt_of_some hj)).trans hj))) Try.underlying37 rfl isz_Sbk) hS ?_
      simp only [Act.put, List.setIfInBounds_toArray, List.set_cons_zero, List.set_cons_succ]
      refine wpAnyH_ready (rs := [10]) (by kernel_rfl) (by simp) (AllReadyH.cons (o := { dst := some 23, op := _, type := _, pos := _, after := _, guard := none }) rfl (fun K hK => ?_) AllReadyH.nil)
      go_simp
      refine (riseF_any x y _).mono ?_
      rintro e w5 ⟨rfl, hb5⟩
      rw [HC.out]
      refine hK.out _ _ ⟨ownsRow_below hS.1 hb5, hS.2.trans (hb5.mono hS.2.size)⟩ (fun hS => ?_)
      clear hK K
      by_cases hlt : C < 0
      · have HE : Hid (¬ Rises (rs.map (·.now))) := fun h => by
          have h1 := h m y.now x.now (by simp [HY.out]) (by simp [HX.out])
          have := HCC.out.1 hlt
          omega
        refine wpAnyH_take (i := 11) (oi := { dst := some 24, op := _, type := _, pos := _, after := _, guard := none }) (v := .bool true) rfl (by kernel_rfl) (by kernel_rfl) (by kernel_rfl) (fun _ _ _ h => h) (Or.inl ⟨by rfl, ?_⟩) hS ?_
        · intro wy hy
          clear hy
          go_simp
        simp only [Act.put, List.setIfInBounds_toArray, List.set_cons_zero, List.set_cons_succ]
        refine wpAnyH_done (by kernel_rfl) ?_ _
        have hB := hS.2
        clear hS
        go_wp2_with fail
        go_ret
        exact ⟨false, rfl, by simp [HE.out], hB⟩
      · have HI2 : Hid (∀ (j : Nat) x y, m ≤ j → rs[j]? = some x → rs[j + 1]? = some y → x.now ≤ y.now) := fun j u v hj hu hv => by
          by_cases e : j = m
          · subst e
            have e1 := HY.out.symm.trans hu
            have e2 := HX.out.symm.trans hv
            cases e1
            cases e2
            have := HCC.out
            omega
          · exact hI.out j u v (by omega) hu hv
        refine wpAnyH_take (i := 11) (oi := { dst := some 24, op := _, type := _, pos := _, after := _, guard := none }) (v := .bool false) rfl (by kernel_rfl) (by kernel_rfl) (by kernel_rfl) (fun _ _ _ h => h) (Or.inl ⟨by rfl, ?_⟩) hS ?_
        · intro wy hy
          clear hy
          (go_simp; try omega)
        simp only [Act.put, List.setIfInBounds_toArray, List.set_cons_zero, List.set_cons_succ]
        refine wpAnyH_done (by kernel_rfl) ?_ _
        have hB := hS.2
        clear hS
        go_wp2_with fail
        go_roundw
        case rel => exact ⟨m, by omega, by first | rfl | go_num, HI2, hB⟩
        case measure => simp [intOf]

end Go.Proofs.Ytnkggfnblcadoaa
