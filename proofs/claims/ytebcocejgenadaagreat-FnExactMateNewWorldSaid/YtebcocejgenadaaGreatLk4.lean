/-
  No hold in two places, by the program. Made by mklk4.py.
-/
import Derived.Test.YtebcocejgenadaaGreatLk1
import Derived.Test.YtebcocejgenadaaGreatRwWnt
import Derived.Laws.OwnMore
namespace Go.Proofs.YtebcocejgenadaaGreat
open Go.RowKit

theorem run_append_none_any {P : Program} {w : World} (base : Nat) (t ty e : TypeId) (i : TypeInfo) (size c : Nat) (ht : P.underlying t = some (.slice e)) (hi : P.info? e = some i)
    (v : Value) (n : Nat) (xs : List Value) (hown : w.ownsRow base e size v n xs) :
    (Builtin.append_ #[t, t] ty #[v, .slice none 0 c]).run P w = .ok v w := by
  rcases hown.2 with ⟨rfl, rfl⟩ | ⟨g, cap, cur, rfl, _, _, hnc, _⟩
  · simp [Builtin.append_, run_underlying ht, sizeOf, typeInfo, hi, Builtin.lenOf, Builtin.firstCells]
  · simp [Builtin.append_, run_underlying ht, sizeOf, typeInfo, hi, Builtin.lenOf, Builtin.firstCells, hnc, storeCells]

theorem wpList_append_any {P : Program} {w : World} {ops : Array Oper} {rest : List Oper} {o : Oper} {a : Act} {Q : Exit → Act → World → Prop} (hgd : o.guard = none) (s x : Operand) (t : TypeId)
    (ho : o.op = .call { callee := .builtin .append, args := #[s, x], argTypes := #[t, t] })
    (base : Nat) (e : TypeId) (i : TypeInfo) (z : Value) (size bytes : Nat) (ht : P.underlying t = some (.slice e)) (hi : P.info? e = some i) (hz : i.zero = some z)
    (hsize : i.size = size) (hby : i.bytes = bytes) (hzs : z.cells.size = size) (hsz : 0 < size)
    (v : Value) (n : Nat) (xs : List Value) (hs : a.eval s = v) (hown : w.ownsRow base e size v n xs)
    (ao : Option Addr) (m c : Nat) (news : List Value) (hx : a.eval x = .slice ao m c) (hno : ao = none → m = 0) (hl : news.length = m * size) (hnews : ∀ ad, ao = some ad → ∀ j u, news[j]? = some u → w.cell? (ad.add j) = some u) (h1 : ∀ u ∈ news, u.oneCell' = true)
    (h63 : n + m ≤ maxLen) (hbytes : (n + m) * bytes ≤ 140737488355328) (hbase : base ≤ w.heap.size)
    (h : ∀ v' w', w'.ownsRow base e size v' (n + m) (xs ++ news) → w.grownBy w' v.ownBlock → (v' = .slice none 0 0 ↔ v = .slice none 0 0 ∧ m = 0) → wpList P ops Q rest (a.put o.dst v') w') : wpList P ops Q (o :: rest) a w := by
  cases ao with
  | some ad => exact wpList_append_own w hgd s x t ho base e i z size bytes ht hi hz hsize hby hzs hsz v n xs hs hown ad m c news hx hl (hnews ad rfl) h1 h63 hbytes hbase h
  | none =>
    obtain rfl := hno rfl
    have hn : news = [] := List.length_eq_zero_iff.1 (by omega)
    subst hn
    have hrun := run_append_none_any (P := P) (w := w) base t o.type e i size c ht hi v n xs hown
    refine wpList_plain hgd fun K hK => ?_
    unfold Oper.wp
    simp [execOp, ho, resolve, invoke, builtin, hs, hx, hrun, Result.andThen]
    exact hK _ _ (h v w (by simpa using hown) ⟨rfl, rfl, rfl, Nat.le_refl _, fun _ _ _ => rfl⟩ (by simp))

theorem rvWnt_app : ∀ (xs ys : List Wnt), rvWnt (xs ++ ys) = rvWnt xs ++ rvWnt ys
  | [], _ => rfl
  | x :: r, ys => by simp only [List.cons_append, rvWnt, rvWnt_app r ys, List.append_assoc]

theorem own_blk2 {base n : Nat} {w : World} {e : TypeId} {s : Nat} {cs : List Value} {v : Value} (h : w.ownsRow base e s v n cs) : ∀ j, v.ownBlock = some j → base ≤ j := by
  intro j hj
  rcases h.2 with ⟨h1, _⟩ | ⟨g', cap', cur, h1, h2, _⟩
  · rw [h1] at hj
    cases hj
  · rw [h1] at hj
    cases hj
    exact h2

theorem row_shape {base n : Nat} {w : World} {e : TypeId} {s : Nat} {cs : List Value} {v : Value} (h : w.ownsRow base e s v n cs) : ∃ b q, v = .slice b n q := by
  rcases h.2 with ⟨h1, h2⟩ | ⟨g', cap', cur, h1, _⟩
  · subst h2
    exact ⟨none, 0, h1⟩
  · exact ⟨_, _, h1⟩

theorem none_nil {α : Type} {C : Make α} {n lo : Nat} {w : World} {xs : List α} (h : SliceC C n lo w none xs) : xs.length = 0 := by
  rcases h.2 with h | ⟨_, _, h, _⟩
  · rw [h]; rfl
  · cases h

theorem news_any {lo : Nat} {w : World} {ad : Addr} {xs : List Wnt} (h : SliceC WntC 7 lo w (some ad) xs) : ∀ (j : Nat) (u : Value), (rvWnt xs)[j]? = some u → w.cell? (ad.add j) = some u := by
  intro j u hu
  rcases h.2 with h2 | ⟨b, o, e, _⟩
  · rw [h2] at hu
    simp [rvWnt] at hu
  · have : ad = ⟨b, o, none⟩ := Option.some.inj e
    subst this
    exact newsWnt h j u hu

theorem rowslWntM {base cap : Nat} {a : Option Addr} {w : World} {xs : List Wnt} (h : w.ownsRow base 79 7 (.slice a xs.length cap) xs.length (rvWnt xs)) (hm : xs.length ≤ 1048576) (hz : SzWnt xs maxLen) : SliceC WntC 7 base w a xs := by
  rcases h.2 with ⟨h1, _⟩ | ⟨g', cap', cur, h1, _⟩
  · have : xs.length = 0 := by injection h1
    rw [List.length_eq_zero_iff.1 this]
    exact SliceC.nil
  · have e : a = some ⟨g', 0, none⟩ := by injection h1
    subst e
    refine ⟨by unfold maxLen; omega, .inr ⟨g', 0, rfl, ⟨rowb h, fun _ p => h.frozenAt p⟩, (h.lt g' rfl).2, fun k x hk => ?_⟩⟩
    have hlt := lt_of_some hk
    have hzz := hz x (List.mem_of_getElem? hk)
    refine rcWnt_cells (fun j v hv => ?_) hzz.1 hzz.2
    have hj : j < 7 := lt_of_some hv
    show w.cell? ⟨g', 0 + k * 7 + j, none⟩ = some v
    have := h.cellAt (k * 7 + j) (by omega)
    rw [Nat.zero_add]
    rw [this, rvWnt_at xs k x j hk hj]
    exact hv

theorem sz_wnts {lo : Nat} {w : World} {a : Option Addr} {xs : List Wnt} (h : SliceC WntC 7 lo w a xs) : SzWnt xs maxLen := by
  intro z hz
  obtain ⟨j, hj, e⟩ := List.getElem_of_mem hz
  obtain ⟨_, _, _, _, _, hc⟩ := h.at (show xs[j]? = some z by rw [List.getElem?_eq_getElem hj, e])
  obtain ⟨_, _, _, _, _, _, _, z0, z2⟩ := hc
  exact ⟨z0, z2⟩

theorem sz_flat {lo : Nat} {w : World} {a : Option Addr} {xs : List Plm} (h : SliceC PlmC 3 lo w a xs) : SzWnt (xs.flatMap (·.wants)) maxLen := by
  intro z hz
  obtain ⟨p, hp, hz⟩ := List.mem_flatMap.1 hz
  obtain ⟨j, hj, e⟩ := List.getElem_of_mem hp
  obtain ⟨_, _, _, _, _, hc⟩ := h.at (show xs[j]? = some p by rw [List.getElem?_eq_getElem hj, e])
  obtain ⟨_, _, _, _, _, _, n2⟩ := hc
  exact sz_wnts n2 z hz

set_option maxHeartbeats 4000000 in
set_option maxRecDepth 100000 in
theorem one_any (x : Lnd) (a1 : Option Addr) (c1 : Nat) (a2 : Option Addr) (c2 : Nat) (lo : Nat) (w : World) (hin : LSl x lo a1 a2 w) :
    Calls Tryz.prog 102 #[.agg #[.int .i64 x.time, .slice a1 x.grants.length c1, .slice a2 x.places.length c2]] w fun e w' => e = .returned (.bool (oneB x.places)) ∧ Below w.heap.size w w' := by
  obtain ⟨i0, hi, hz0, hz1, hz2⟩ := info_parts info_Wnt
  have HI := Hid.intro hin
  clear hin
  have HK1 : Hid (Blk w.heap.size #[.int .i64 x.time, .slice a1 x.grants.length c1, .slice a2 x.places.length c2] 27 (w.alloc (Obj.cells #[.int .i64 x.time, .slice a1 x.grants.length c1, .slice a2 x.places.length c2] 27))) := Blk.alloc _ _ _
  have hB1 : Below w.heap.size w (w.alloc (Obj.cells #[.int .i64 x.time, .slice a1 x.grants.length c1, .slice a2 x.places.length c2] 27)) := (Below.refl _ w).alloc (Nat.le_refl _) _
  go_enter Tryz.func102, Tryz.ntmps102
  go_upto_region 1 with fail
  generalize w.alloc (Obj.cells #[.int .i64 x.time, .slice a1 x.grants.length c1, .slice a2 x.places.length c2] 27) = w1 at *
  have k2 : w1.cell? ⟨w.heap.size, 2, none⟩ = some (.slice a2 x.places.length c2) := HK1.out.cell rfl
  go_wp2_with fail
  go_loopw [3, 9] (fun v i wr => ∃ (k : Nat) (b : Option Addr) (q m : Nat), k ≤ x.places.length ∧ i = .int .i64 k ∧ v = .slice b m q ∧ Hid (m = ((x.places.take k).flatMap (·.wants)).length) ∧ m ≤ 1048576 ∧ Hid (wr.ownsRow w.heap.size 79 7 (.slice b m q) m (rvWnt ((x.places.take k).flatMap (·.wants)))) ∧ Below w.heap.size w wr) (fun _ i _ => x.places.length - (intOf i).toNat)
  case atStart => exact ⟨0, none, 0, 0, Nat.zero_le _, rfl, rfl, rfl, Nat.zero_le _, World.ownsRow_nil _ _ _ _, hB1⟩
  case round =>
    clear HK1 hB1 k2
    have hl2 := HI.out.l2
    obtain ⟨k, b1, q, m, hk, rfl, rfl, HML, hm, HO, hB⟩ := hrel
    by_cases hlt : k < x.places.length
    case neg =>
      have hke : k = x.places.length := by omega
      subst hke
      rw [List.take_length] at HML HO
      have HL3 := Hid.intro HI.out.l3
      have HSF := Hid.intro (sz_flat HI.out.s2)
      have HEQ : Hid (oneB x.places = difTo ((x.places.flatMap (·.wants)).map (·.hold)) (x.places.flatMap (·.wants)).length) := by show _ = _; unfold oneB hsP; rw [List.length_map]
      generalize x.places.flatMap (·.wants) = F at *
      have HE := HML.out
      subst HE
      have HS := Hid.intro (rowslWntM HO.out HL3.out HSF.out)
      go_wp2_with fail
      refine (differ_any F b1 q _ _ HS.out HL3.out).mono ?_
      rintro e w5 ⟨rfl, hb5⟩
      have hB5 := hB.trans (hb5.mono hB.size)
      go_wp2_with fail
      go_ret
      exact ⟨ret_bool HEQ.out.symm, hB5⟩
    obtain ⟨y, hy⟩ : ∃ y, x.places[k]? = some y := ⟨x.places[k], List.getElem?_eq_getElem hlt⟩
    obtain ⟨b, o, e1, _, hbl, hc⟩ := (HI.out.s2.below PlmC.holds hB (Nat.le_refl _)).at hy
    subst e1
    obtain ⟨p2, q2, hc⟩ := hc
    have HRA := Hid.intro (plm_range hc)
    obtain ⟨_, _, _, z0, n2⟩ := hc
    have N2 := Hid.intro n2
    have HST := Hid.intro (flat_step hy)
    have hle : m + y.wants.length ≤ 1048576 := by
      have h1 := flat_le x.places (k + 1)
      rw [flat_step hy, List.length_append, ← HML.out] at h1
      have h2 := HI.out.l3
      omega
    clear z0 n2 hy
    have hb4 : Below wr.heap.size wr (wr.alloc (Obj.cells #[.string y.berth, .int .i64 y.seen, .slice p2 y.wants.length q2] 89)) := (Below.refl _ _).alloc (Nat.le_refl _) _
    have HG4 : Hid (Blk wr.heap.size #[.string y.berth, .int .i64 y.seen, .slice p2 y.wants.length q2] 89 (wr.alloc (Obj.cells #[.string y.berth, .int .i64 y.seen, .slice p2 y.wants.length q2] 89))) := Blk.alloc _ _ _
    have HO4 := Hid.intro (ownsRow_below HO.out hb4)
    have hB4 := hB.trans (hb4.mono hB.size)
    replace N2 := Hid.intro (N2.out.below WntC.holds hb4 (Nat.le_refl _))
    clear hB hb4 HO
    go_upto_region 5 with (refine wpList_load_mid rfl 89 _ rfl b (o + k * 3) (by first | rfl | (simp [go_sem]; done)) [.string y.berth, .int .i64 y.seen, .slice p2 y.wants.length q2] _ HRA.out Tryz.underlying89 rfl isz_Plm ?_)
    clear HRA
    generalize wr.alloc (Obj.cells #[.string y.berth, .int .i64 y.seen, .slice p2 y.wants.length q2] 89) = w4 at *
    generalize wr.heap.size = qq at *
    have d2 : w4.cell? ⟨qq, 2, none⟩ = some (.slice p2 y.wants.length q2) := HG4.out.cell rfl
    have HNO : Hid (p2 = none → y.wants.length = 0) := fun e => none_nil (e ▸ N2.out)
    have HN4 : Hid (∀ ad, p2 = some ad → ∀ j u, (rvWnt y.wants)[j]? = some u → w4.cell? (ad.add j) = some u) := fun ad e => news_any (e ▸ N2.out)
    have hws : w.heap.size ≤ w4.heap.size := hB4.size
    go_upto_region 6 with (at_builtin; refine wpList_append_any rfl _ _ 37 rfl w.heap.size 79 i0 _ 7 72 Tryz.underlying37 hi hz0 hz1 hz2 rfl (by decide) _ m _ rfl HO4.out p2 y.wants.length q2 (rvWnt y.wants) rfl HNO.out (by rw [rvWnt_len]) HN4.out (rvWnt_one y.wants) (by unfold maxLen; omega) (by omega) hws ?_; intro v' w8 hown8 hgrow8 hnil8)
    have HO8 : Hid (w8.ownsRow w.heap.size 79 7 v' (m + y.wants.length) (rvWnt ((x.places.take (k + 1)).flatMap (·.wants)))) := by
      show World.ownsRow _ _ _ _ _ _ _
      rw [HST.out, rvWnt_app]
      exact hown8
    have HML2 : Hid (m + y.wants.length = ((x.places.take (k + 1)).flatMap (·.wants)).length) := by
      show _ = _
      rw [HST.out, List.length_append, ← HML.out]
    have hB8 : Below w.heap.size w w8 := hB4.grown hgrow8 hB4.size (own_blk2 HO4.out)
    obtain ⟨b8, q8, rfl⟩ := row_shape HO8.out
    clear hown8 hgrow8 hnil8 HO4 HG4 hB4 d2 HN4 N2 HST HML
    go_wp2_with fail
    go_roundw
    case rel => exact ⟨k + 1, b8, q8, m + y.wants.length, by omega, by go_num, rfl, HML2, hle, HO8, hB8⟩
    case measure => simp [intOf]; omega

end Go.Proofs.YtebcocejgenadaaGreat
