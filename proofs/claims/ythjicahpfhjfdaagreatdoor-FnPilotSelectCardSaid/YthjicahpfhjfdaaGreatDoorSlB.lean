/-
  What is drawn of selects: words, leaves (made by mkslb.py).
-/
import Derived.Test.YthjicahpfhjfdaaGreatDoorSlA
import Derived.Test.YthjicahpfhjfdaaGreatDoorJ18
import Derived.Deep.RegionHeld3
namespace Go.Proofs.YthjicahpfhjfdaaGreatDoor
open Go.RowKit

/-- a reader that has read at most n times -/
def RdL (p n : Nat) (w : World) : Prop := ∃ K, K ≤ n ∧ RdS p K w
theorem RdL.lt {p n : Nat} {w : World} (h : RdL p n w) : p < w.heap.size := by
  obtain ⟨_, _, h⟩ := h
  exact h.lt
theorem RdL.below {p n B : Nat} {w w' : World} (h : RdL p n w) (hb : Below B w w') (hB : p < B) : RdL p n w' := by
  obtain ⟨K, h1, h2⟩ := h
  exact ⟨K, h1, h2.below hb hB⟩
theorem RdL.drew {p n : Nat} {w : World} (h : RdL p n w) : RdL p n w.drew := h
theorem RdL.mono {p n m : Nat} {w : World} (h : RdL p n w) (hm : n ≤ m) : RdL p m w := by
  obtain ⟨K, h1, h2⟩ := h
  exact ⟨K, Nat.le_trans h1 hm, h2⟩

theorem pickL (p n : Nat) (m : Int) (w : World) (hR : RdL p n w) (hn : n ≤ 1000000) (h1 : 1 ≤ m) (h2 : m ≤ 1000000) :
    Calls Tryz.prog 16 #[.pointer (some ⟨p, 0, none⟩), .int .i64 m] w fun e w' => ∃ v : Nat, e = .returned (.int .i64 (v : Int)) ∧ (v : Int) < m ∧ RdL p (n + 1) w' ∧ Bt p w.heap.size w w' := by
  obtain ⟨K, hK, hR⟩ := hR
  refine (pick_rd p K m w hR (by omega) h1 h2).mono ?_
  rintro e w' ⟨v, rfl, hv, hr, hb, -⟩
  exact ⟨v, rfl, hv, ⟨K + 1, by omega, hr⟩, hb⟩

set_option maxHeartbeats 4000000 in
set_option maxRecDepth 100000 in
theorem pick_none (p K : Nat) (w : World) (hR : RdS p K w) (hK : K ≤ 1000000) :
    Calls Tryz.prog 16 #[.pointer (some ⟨p, 0, none⟩), .int .i64 0] w fun e w' => e = .returned (.int .i64 0) ∧ RdS p (K + 1) w' ∧ Bt p w.heap.size w w' := by
  obtain ⟨xs, a, cap, hin, hX, hl⟩ := hR
  have k1 : w.cell? ⟨p, 1, none⟩ = some (.int .i64 (K : Int)) := hX.cell rfl
  have f1 : w.frozen? ⟨p, 1, none⟩ = false := hX.frozen _
  have hb : Bt p w.heap.size w (w.setCell ⟨p, 1, none⟩ (.int .i64 ((K : Int) + 1))) := (Bt.refl p _ w).set 1 _
  have HB := Hid.intro hb
  have HRR : Hid (RdS p (K + 1) (w.setCell ⟨p, 1, none⟩ (.int .i64 ((K : Int) + 1)))) := ⟨xs, a, cap, hin.bt hb (Nat.le_of_lt hX.lt), by simpa using hX.set 1 (.int .i64 ((K : Int) + 1)), hl⟩
  clear hin hX hb
  go_enter Tryz.func16, Tryz.ntmps16
  go_wp2_with fail
  go_ret
  exact ⟨rfl, HRR.out, HB.out⟩

theorem pickN (p n k : Nat) (w : World) (hR : RdL p n w) (hn : n ≤ 1000000) (hk : k ≤ 1000000) :
    Calls Tryz.prog 16 #[.pointer (some ⟨p, 0, none⟩), .int .i64 (k : Int)] w fun e w' => ∃ v : Nat, e = .returned (.int .i64 (v : Int)) ∧ (0 < k → v < k) ∧ v ≤ k ∧ RdL p (n + 1) w' ∧ Bt p w.heap.size w w' := by
  obtain ⟨K, hK, hR⟩ := hR
  rcases Nat.eq_zero_or_pos k with rfl | h0
  · refine (pick_none p K w hR (by omega)).mono ?_
    rintro e w' ⟨rfl, hr, hb⟩
    exact ⟨0, rfl, fun h => absurd h (Nat.lt_irrefl _), Nat.le_refl _, ⟨K + 1, by omega, hr⟩, hb⟩
  · refine (pick_rd p K (k : Int) w hR (by omega) (by omega) (by omega)).mono ?_
    rintro e w' ⟨v, rfl, hv, hr, hb, -⟩
    exact ⟨v, rfl, fun _ => by omega, by omega, ⟨K + 1, by omega, hr⟩, hb⟩

/-- one of a table of texts -/
theorem tabS (L : List ByteArray) (v : Nat) (h : v < L.length) (hs : ∀ s ∈ L, s.size ≤ 600) : ∃ s : ByteArray, (L.map Value.string).toArray[v]? = some (.string s) ∧ s.size ≤ 600 := by
  refine ⟨L[v], ?_, hs _ (List.getElem_mem h)⟩
  rw [List.getElem?_toArray, List.getElem?_map, List.getElem?_eq_getElem h]
  rfl

theorem NdRow.bt {w w' : World} {B B' p : Nat} {v : Value} {ns : List P.Nd} (h : NdRow w B v ns) (hb : Bt p B' w w') (hB : w.heap.size ≤ B') (hp : p < B) : NdRow w' B v ns := by
  obtain ⟨g, cap, h1, h2, h3, h4⟩ := h
  refine ⟨g, cap, h1, h2, Nat.lt_of_lt_of_le h3 hb.size, fun j u hj => ?_⟩
  exact (hb.cell (a := ⟨g, 0 + j, none⟩) (show g < B' by omega) (show g ≠ p by omega)).trans (h4 j u hj)

/-- names and values are short -/
def Sh (ns : List P.Nd) : Prop := ∀ x ∈ ns, x.name.size ≤ 600 ∧ x.value.size ≤ 600
theorem Sh.app {a b : List P.Nd} (h : Sh a) (k : Sh b) : Sh (a ++ b) := fun x hx => (List.mem_append.1 hx).elim (h x) (k x)
theorem Sh.one {n : P.Nd} (h : n.name.size ≤ 600) (k : n.value.size ≤ 600) : Sh [n] := fun x hx => by
  rw [List.mem_singleton] at hx
  subst hx
  exact ⟨h, k⟩
theorem none_size : (⟨#[]⟩ : ByteArray).size ≤ 600 := by decide
theorem sh_over (k j : Int) : Sh [⟨k, ⟨#[]⟩, ⟨#[]⟩, j⟩] := Sh.one none_size none_size

/-- nodes drawn: at most m, behind at most n reads -/
def DrN (p m n : Nat) (W w' : World) (v : Value) : Prop := ∃ ns, NdRow w' W.heap.size v ns ∧ ns.length ≤ m ∧ 1 ≤ ns.length ∧ Sh ns ∧ RdL p n w' ∧ Bt p W.heap.size W w'

theorem node_row (W : World) (n : P.Nd) (T : TypeId) (B : Nat) (hB : B ≤ W.heap.size) : NdRow (W.alloc (.cells #[.int .i64 n.kind, .string n.name, .string n.value, .int .i64 n.kids] T)) B (.slice (some ⟨W.heap.size, 0, none⟩) 1 1) [n] := by
  refine ⟨W.heap.size, 1, rfl, hB, by simp, fun j u hj => ?_⟩
  have := news_nd W n T j u (by simpa [ndCells] using hj)
  rw [Addr.add_mid] at this
  exact this

set_option maxHeartbeats 4000000 in
set_option maxRecDepth 100000 in
theorem word_any (p n : Nat) (w : World) (hR : RdL p n w) (hn : n ≤ 900000) :
    Calls Tryz.prog 63 #[.pointer (some ⟨p, 0, none⟩)] w fun e w' => ∃ s : ByteArray, e = .returned (.string s) ∧ s.size ≤ 600 ∧ RdL p (n + 1) w' ∧ Bt p w.heap.size w w' := by
  have hpl := hR.lt
  have hbw : Below w.heap.size w (w.alloc (Obj.cells #[.string ⟨#[115, 115, 100]⟩, .string ⟨#[111, 108, 100]⟩, .string ⟨#[103, 112, 117]⟩, .string ⟨#[122, 111, 110, 101]⟩, .string ⟨#[99, 111, 108, 111, 114]⟩, .string ⟨#[97]⟩, .string ⟨#[98, 45, 49]⟩, .string ⟨#[120, 95, 50]⟩] 9)) := (Below.refl _ _).alloc (Nat.le_refl _) _
  have HR := Hid.intro (hR.below hbw hpl)
  have HT : Hid (Blk w.heap.size #[.string ⟨#[115, 115, 100]⟩, .string ⟨#[111, 108, 100]⟩, .string ⟨#[103, 112, 117]⟩, .string ⟨#[122, 111, 110, 101]⟩, .string ⟨#[99, 111, 108, 111, 114]⟩, .string ⟨#[97]⟩, .string ⟨#[98, 45, 49]⟩, .string ⟨#[120, 95, 50]⟩] 9 (w.alloc (Obj.cells #[.string ⟨#[115, 115, 100]⟩, .string ⟨#[111, 108, 100]⟩, .string ⟨#[103, 112, 117]⟩, .string ⟨#[122, 111, 110, 101]⟩, .string ⟨#[99, 111, 108, 111, 114]⟩, .string ⟨#[97]⟩, .string ⟨#[98, 45, 49]⟩, .string ⟨#[120, 95, 50]⟩] 9))) := Blk.alloc _ _ _
  clear hR
  go_enter Tryz.func63, Tryz.ntmps63
  go_wp2_with fail
  generalize w.alloc (Obj.cells #[.string ⟨#[115, 115, 100]⟩, .string ⟨#[111, 108, 100]⟩, .string ⟨#[103, 112, 117]⟩, .string ⟨#[122, 111, 110, 101]⟩, .string ⟨#[99, 111, 108, 111, 114]⟩, .string ⟨#[97]⟩, .string ⟨#[98, 45, 49]⟩, .string ⟨#[120, 95, 50]⟩] 9) = w1 at *
  have hs1 := HT.out.lt
  refine (pickL p n 8 _ HR.out (by omega) (by omega) (by omega)).mono ?_
  rintro e w2 ⟨v, rfl, hv, hr, hb⟩
  obtain ⟨s, hs, hz⟩ := tabS [⟨#[115, 115, 100]⟩, ⟨#[111, 108, 100]⟩, ⟨#[103, 112, 117]⟩, ⟨#[122, 111, 110, 101]⟩, ⟨#[99, 111, 108, 111, 114]⟩, ⟨#[97]⟩, ⟨#[98, 45, 49]⟩, ⟨#[120, 95, 50]⟩] v (by simp; omega) (by decide)
  have c0 : w2.cell? ⟨w.heap.size, v, none⟩ = some (.string s) := (HT.out.bt hb hs1 (by omega)).cell hs
  have i0 : (0 : Int) ≤ (v : Int) := by omega
  clear hs
  go_wp2_with fail
  go_ret
  exact ⟨s, rfl, hz, hr, (Bt.of_below hbw).trans (hb.mono hbw.size)⟩

set_option maxHeartbeats 4000000 in
set_option maxRecDepth 100000 in
theorem leaf_any (p n : Nat) (w : World) (hR : RdL p n w) (hn : n ≤ 890000) :
    Calls Tryz.prog 43 #[.pointer (some ⟨p, 0, none⟩)] w fun e w' => ∃ v, e = .returned v ∧ DrN p 1 (n + 3) w w' v := by
  have hpl := hR.lt
  have HR := Hid.intro hR
  clear hR
  go_enter Tryz.func43, Tryz.ntmps43
  go_wp2_with fail
  refine (pickL p n 2 _ HR.out (by omega) (by omega) (by omega)).mono ?_
  rintro e w1 ⟨v, rfl, hv, hr1, hb1⟩
  have hs1 : w.heap.size ≤ w1.heap.size := hb1.size
  replace HR := Hid.intro hr1
  have HB := Hid.intro hb1
  clear hr1 hb1
  rcases (by omega : v = 0 ∨ v = 1) with rfl | rfl
  · go_wp2_with fail
    refine (word_any p (n + 1) _ HR.out (by omega)).mono ?_
    rintro e w2 ⟨s, rfl, hz, hr2, hb2⟩
    have hs2 := hb2.size
    have hba : Below w2.heap.size w2 (w2.alloc (.cells #[.int .i64 1, .string s, .string ⟨#[]⟩, .int .i64 0] 36)) := (Below.refl _ _).alloc (Nat.le_refl _) _
    have HN := Hid.intro (node_row w2 ⟨1, s, ⟨#[]⟩, 0⟩ 36 w.heap.size (by omega))
    go_wp2_with fail
    go_ret
    exact ⟨_, rfl, [⟨1, s, ⟨#[]⟩, 0⟩], HN.out, by simp, by simp, Sh.one hz none_size, (hr2.below hba (by have := hr2.lt; omega)).mono (by omega), (HB.out.trans (hb2.mono (by omega))).trans ((Bt.of_below hba).mono (by omega))⟩
  · go_upto_region 3 with fail
    refine wp_region_held_drew (S := fun _ => True) (by kernel_rfl) trivial (fun hS => ?_)
    replace HR := Hid.intro HR.out.drew
    replace HB := Hid.intro HB.out.drew
    replace hs1 : w.heap.size ≤ w1.drew.heap.size := hs1
    generalize w1.drew = wn at *
    refine wpAnyH_take (i := 1) (oi := { dst := some 11, op := _, type := _, pos := _, after := _, guard := none }) (v := .pointer (some ⟨p, 0, none⟩)) rfl (by kernel_rfl) (by kernel_rfl) (by kernel_rfl) (fun _ _ _ h => h) (Or.inl ⟨by rfl, ?_⟩) hS ?_
    · intro wy hy
      clear hy
      go_simp
    simp only [Act.put, List.setIfInBounds_toArray, List.set_cons_zero, List.set_cons_succ]
    refine wpAnyH_take (i := 6) (oi := { dst := some 16, op := _, type := _, pos := _, after := _, guard := none }) (v := .pointer (some ⟨p, 0, none⟩)) rfl (by kernel_rfl) (by kernel_rfl) (by kernel_rfl) (fun _ _ _ h => h) (Or.inl ⟨by rfl, ?_⟩) hS ?_
    · intro wy hy
      clear hy
      go_simp
    simp only [Act.put, List.setIfInBounds_toArray, List.set_cons_zero, List.set_cons_succ]
    refine wpAnyH_ready (rs := [0, 2, 5]) (by kernel_rfl) (by simp) (AllReadyH.cons (o := { dst := some 10, op := _, type := _, pos := _, after := _, guard := none }) rfl (fun KK hKK => ?_) (AllReadyH.cons (o := { dst := some 12, op := _, type := _, pos := _, after := _, guard := none }) rfl (fun KK hKK => ?_) (AllReadyH.cons (o := { dst := some 15, op := _, type := _, pos := _, after := _, guard := none }) rfl (fun KK hKK => ?_) AllReadyH.nil)))
    · skip
      go_simp
      have HA : Hid (Blk wn.heap.size #[.string ⟨#[122, 111, 110, 101]⟩, .string ⟨#[99, 111, 108, 111, 114]⟩, .string ⟨#[115, 115, 100]⟩] 9 (wn.alloc (Obj.cells #[.string ⟨#[122, 111, 110, 101]⟩, .string ⟨#[99, 111, 108, 111, 114]⟩, .string ⟨#[115, 115, 100]⟩] 9))) := Blk.alloc _ _ _
      have hbw : Below wn.heap.size wn (wn.alloc (Obj.cells #[.string ⟨#[122, 111, 110, 101]⟩, .string ⟨#[99, 111, 108, 111, 114]⟩, .string ⟨#[115, 115, 100]⟩] 9)) := (Below.refl _ _).alloc (Nat.le_refl _) _
      have hgA : w.heap.size ≤ wn.heap.size := hs1
      replace HB := Hid.intro (HB.out.trans ((Bt.of_below hbw).mono hs1))
      replace hs1 : w.heap.size ≤ (wn.alloc (Obj.cells #[.string ⟨#[122, 111, 110, 101]⟩, .string ⟨#[99, 111, 108, 111, 114]⟩, .string ⟨#[115, 115, 100]⟩] 9)).heap.size := by have := hbw.size; omega
      replace HR := Hid.intro (HR.out.below hbw HR.out.lt)
      clear hbw
      refine hKK.out _ _ trivial (fun hS => ?_)
      clear hKK KK hS
      generalize wn.heap.size = gA at *
      generalize wn.alloc (Obj.cells #[.string ⟨#[122, 111, 110, 101]⟩, .string ⟨#[99, 111, 108, 111, 114]⟩, .string ⟨#[115, 115, 100]⟩] 9) = wn at *
      refine wpAnyH_mono (S' := fun wy => Blk gA #[.string ⟨#[122, 111, 110, 101]⟩, .string ⟨#[99, 111, 108, 111, 114]⟩, .string ⟨#[115, 115, 100]⟩] 9 wy) (fun _ h => trivial) _ _ _ _ ?_
      have hS : (fun wy => Blk gA #[.string ⟨#[122, 111, 110, 101]⟩, .string ⟨#[99, 111, 108, 111, 114]⟩, .string ⟨#[115, 115, 100]⟩] 9 wy) wn := HA.out
      refine wpAnyH_ready (rs := [2, 5]) (by kernel_rfl) (by simp) (AllReadyH.cons (o := { dst := some 12, op := _, type := _, pos := _, after := _, guard := none }) rfl (fun KK hKK => ?_) (AllReadyH.cons (o := { dst := some 15, op := _, type := _, pos := _, after := _, guard := none }) rfl (fun KK hKK => ?_) AllReadyH.nil))
      · skip
        go_simp
        refine (pickL p (n + 1) 3 _ HR.out (by omega) (by omega) (by omega)).mono ?_
        rintro e wn ⟨u1, rfl, hu1, hr, hb⟩
        replace HA := Hid.intro (HA.out.bt hb HA.out.lt (by omega))
        replace HB := Hid.intro (HB.out.trans (hb.mono hs1))
        replace hs1 : w.heap.size ≤ wn.heap.size := by have := hb.size; omega
        replace HR := Hid.intro hr
        refine hKK.out _ _ HA.out (fun hS => ?_)
        clear hKK KK hb hr
        obtain ⟨s1, hd1, hz1⟩ := tabS [⟨#[122, 111, 110, 101]⟩, ⟨#[99, 111, 108, 111, 114]⟩, ⟨#[115, 115, 100]⟩] u1 (by simp; omega) (by decide)
        refine wpAnyH_take (i := 3) (oi := { dst := some 13, op := _, type := _, pos := _, after := _, guard := none }) (v := .pointer (some ⟨gA, u1, none⟩)) rfl (by kernel_rfl) (by kernel_rfl) (by kernel_rfl) (fun _ _ _ h => h) (Or.inl ⟨by rfl, ?_⟩) hS ?_
        · intro wy hy
          clear hy
          first | (go_simp; done) | (go_simp; omega) | (go_simp; intro hh; omega)
        simp only [Act.put, List.setIfInBounds_toArray, List.set_cons_zero, List.set_cons_succ]
        refine wpAnyH_take (i := 4) (oi := { dst := some 14, op := _, type := _, pos := _, after := _, guard := none }) (v := .string s1) rfl (by kernel_rfl) (by kernel_rfl) (by kernel_rfl) (fun _ _ _ h => h) (Or.inl ⟨by rfl, ?_⟩) hS ?_
        · intro wy hy
          have h0 := (hy).cell (o := u1) (v := .string s1) hd1
          clear hy
          go_simp
        simp only [Act.put, List.setIfInBounds_toArray, List.set_cons_zero, List.set_cons_succ]
        refine wpAnyH_ready (rs := [5, 7]) (by kernel_rfl) (by simp) (AllReadyH.cons (o := { dst := some 15, op := _, type := _, pos := _, after := _, guard := none }) rfl (fun KK hKK => ?_) (AllReadyH.cons (o := { dst := some 17, op := _, type := _, pos := _, after := _, guard := none }) rfl (fun KK hKK => ?_) AllReadyH.nil))
        · skip
          go_simp
          have HC : Hid (Blk wn.heap.size #[.string ⟨#[101, 97, 115, 116]⟩, .string ⟨#[119, 101, 115, 116]⟩, .string ⟨#[114, 101, 100]⟩, .string ⟨#[97]⟩] 9 (wn.alloc (Obj.cells #[.string ⟨#[101, 97, 115, 116]⟩, .string ⟨#[119, 101, 115, 116]⟩, .string ⟨#[114, 101, 100]⟩, .string ⟨#[97]⟩] 9))) := Blk.alloc _ _ _
          have hbw : Below wn.heap.size wn (wn.alloc (Obj.cells #[.string ⟨#[101, 97, 115, 116]⟩, .string ⟨#[119, 101, 115, 116]⟩, .string ⟨#[114, 101, 100]⟩, .string ⟨#[97]⟩] 9)) := (Below.refl _ _).alloc (Nat.le_refl _) _
          replace HA := Hid.intro (HA.out.below hbw HA.out.lt)
          have hgB : w.heap.size ≤ wn.heap.size := hs1
          replace HB := Hid.intro (HB.out.trans ((Bt.of_below hbw).mono hs1))
          replace hs1 : w.heap.size ≤ (wn.alloc (Obj.cells #[.string ⟨#[101, 97, 115, 116]⟩, .string ⟨#[119, 101, 115, 116]⟩, .string ⟨#[114, 101, 100]⟩, .string ⟨#[97]⟩] 9)).heap.size := by have := hbw.size; omega
          replace HR := Hid.intro (HR.out.below hbw HR.out.lt)
          clear hbw
          refine hKK.out _ _ HA.out (fun hS => ?_)
          clear hKK KK hS
          generalize wn.heap.size = gB at *
          generalize wn.alloc (Obj.cells #[.string ⟨#[101, 97, 115, 116]⟩, .string ⟨#[119, 101, 115, 116]⟩, .string ⟨#[114, 101, 100]⟩, .string ⟨#[97]⟩] 9) = wn at *
          refine wpAnyH_mono (S' := fun wy => Blk gA #[.string ⟨#[122, 111, 110, 101]⟩, .string ⟨#[99, 111, 108, 111, 114]⟩, .string ⟨#[115, 115, 100]⟩] 9 wy ∧ Blk gB #[.string ⟨#[101, 97, 115, 116]⟩, .string ⟨#[119, 101, 115, 116]⟩, .string ⟨#[114, 101, 100]⟩, .string ⟨#[97]⟩] 9 wy) (fun _ h => h.1) _ _ _ _ ?_
          have hS : (fun wy => Blk gA #[.string ⟨#[122, 111, 110, 101]⟩, .string ⟨#[99, 111, 108, 111, 114]⟩, .string ⟨#[115, 115, 100]⟩] 9 wy ∧ Blk gB #[.string ⟨#[101, 97, 115, 116]⟩, .string ⟨#[119, 101, 115, 116]⟩, .string ⟨#[114, 101, 100]⟩, .string ⟨#[97]⟩] 9 wy) wn := ⟨HA.out, HC.out⟩
          refine wpAnyH_ready (rs := [7]) (by kernel_rfl) (by simp) (AllReadyH.cons (o := { dst := some 17, op := _, type := _, pos := _, after := _, guard := none }) rfl (fun KK hKK => ?_) AllReadyH.nil)
          go_simp
          refine (pickL p (n + 2) 4 _ HR.out (by omega) (by omega) (by omega)).mono ?_
          rintro e wn ⟨u2, rfl, hu2, hr, hb⟩
          replace HA := Hid.intro (HA.out.bt hb HA.out.lt (by omega))
          replace HC := Hid.intro (HC.out.bt hb HC.out.lt (by omega))
          replace HB := Hid.intro (HB.out.trans (hb.mono hs1))
          replace hs1 : w.heap.size ≤ wn.heap.size := by have := hb.size; omega
          replace HR := Hid.intro hr
          refine hKK.out _ _ ⟨HA.out, HC.out⟩ (fun hS => ?_)
          clear hKK KK hb hr
          obtain ⟨s2, hd2, hz2⟩ := tabS [⟨#[101, 97, 115, 116]⟩, ⟨#[119, 101, 115, 116]⟩, ⟨#[114, 101, 100]⟩, ⟨#[97]⟩] u2 (by simp; omega) (by decide)
          refine wpAnyH_take (i := 8) (oi := { dst := some 18, op := _, type := _, pos := _, after := _, guard := none }) (v := .pointer (some ⟨gB, u2, none⟩)) rfl (by kernel_rfl) (by kernel_rfl) (by kernel_rfl) (fun _ _ _ h => h) (Or.inl ⟨by rfl, ?_⟩) hS ?_
          · intro wy hy
            clear hy
            first | (go_simp; done) | (go_simp; omega) | (go_simp; intro hh; omega)
          simp only [Act.put, List.setIfInBounds_toArray, List.set_cons_zero, List.set_cons_succ]
          refine wpAnyH_take (i := 9) (oi := { dst := some 19, op := _, type := _, pos := _, after := _, guard := none }) (v := .string s2) rfl (by kernel_rfl) (by kernel_rfl) (by kernel_rfl) (fun _ _ _ h => h) (Or.inl ⟨by rfl, ?_⟩) hS ?_
          · intro wy hy
            have h0 := (hy.2).cell (o := u2) (v := .string s2) hd2
            clear hy
            go_simp
          simp only [Act.put, List.setIfInBounds_toArray, List.set_cons_zero, List.set_cons_succ]
          refine wpAnyH_take (i := 10) (oi := { dst := some 20, op := _, type := _, pos := _, after := _, guard := none }) (v := .agg #[.int .i64 2, .string s1, .string s2, .int .i64 0]) rfl (by kernel_rfl) (by kernel_rfl) (by kernel_rfl) (fun _ _ _ h => h) (Or.inl ⟨by rfl, ?_⟩) hS ?_
          · intro wy hy
            clear hy
            go_simp
          simp only [Act.put, List.setIfInBounds_toArray, List.set_cons_zero, List.set_cons_succ]
          have HN := Hid.intro (node_row wn ⟨2, s1, s2, 0⟩ 36 w.heap.size hs1)
          have hba : Below wn.heap.size wn (wn.alloc (.cells #[.int .i64 2, .string s1, .string s2, .int .i64 0] 36)) := (Below.refl _ _).alloc (Nat.le_refl _) _
          refine wpAnyH_ready (rs := [11]) (by kernel_rfl) (by simp) (AllReadyH.cons (o := { dst := some 21, op := _, type := _, pos := _, after := _, guard := none }) rfl (fun KK hKK => ?_) AllReadyH.nil)
          go_simp
          refine hKK.out _ _ ⟨HA.out.below hba HA.out.lt, HC.out.below hba HC.out.lt⟩ (fun hS => ?_)
          clear hKK KK
          refine wpAnyH_take (i := 12) (oi := { dst := some 2, op := _, type := _, pos := _, after := _, guard := none }) (v := .slice (some ⟨wn.heap.size, 0, none⟩) 1 1) rfl (by kernel_rfl) (by kernel_rfl) (by kernel_rfl) (fun _ _ _ h => h) (Or.inl ⟨by rfl, ?_⟩) hS ?_
          · intro wy hy
            clear hy
            go_simp
          simp only [Act.put, List.setIfInBounds_toArray, List.set_cons_zero, List.set_cons_succ]
          refine wpAnyH_done (by kernel_rfl) ?_ _
          clear hS
          go_wp2_with fail
          go_ret
          exact ⟨_, rfl, [⟨2, s1, s2, 0⟩], HN.out, by simp, by simp, Sh.one hz1 hz2, (HR.out.below hba HR.out.lt).mono (by omega), HB.out.trans ((Bt.of_below hba).mono hs1)⟩
        · skip
          go_simp
          refine (pickL p (n + 2) 4 _ HR.out (by omega) (by omega) (by omega)).mono ?_
          rintro e wn ⟨u2, rfl, hu2, hr, hb⟩
          replace HA := Hid.intro (HA.out.bt hb HA.out.lt (by omega))
          replace HB := Hid.intro (HB.out.trans (hb.mono hs1))
          replace hs1 : w.heap.size ≤ wn.heap.size := by have := hb.size; omega
          replace HR := Hid.intro hr
          refine hKK.out _ _ HA.out (fun hS => ?_)
          clear hKK KK hb hr
          refine wpAnyH_ready (rs := [5]) (by kernel_rfl) (by simp) (AllReadyH.cons (o := { dst := some 15, op := _, type := _, pos := _, after := _, guard := none }) rfl (fun KK hKK => ?_) AllReadyH.nil)
          go_simp
          have HC : Hid (Blk wn.heap.size #[.string ⟨#[101, 97, 115, 116]⟩, .string ⟨#[119, 101, 115, 116]⟩, .string ⟨#[114, 101, 100]⟩, .string ⟨#[97]⟩] 9 (wn.alloc (Obj.cells #[.string ⟨#[101, 97, 115, 116]⟩, .string ⟨#[119, 101, 115, 116]⟩, .string ⟨#[114, 101, 100]⟩, .string ⟨#[97]⟩] 9))) := Blk.alloc _ _ _
          have hbw : Below wn.heap.size wn (wn.alloc (Obj.cells #[.string ⟨#[101, 97, 115, 116]⟩, .string ⟨#[119, 101, 115, 116]⟩, .string ⟨#[114, 101, 100]⟩, .string ⟨#[97]⟩] 9)) := (Below.refl _ _).alloc (Nat.le_refl _) _
          replace HA := Hid.intro (HA.out.below hbw HA.out.lt)
          have hgB : w.heap.size ≤ wn.heap.size := hs1
          replace HB := Hid.intro (HB.out.trans ((Bt.of_below hbw).mono hs1))
          replace hs1 : w.heap.size ≤ (wn.alloc (Obj.cells #[.string ⟨#[101, 97, 115, 116]⟩, .string ⟨#[119, 101, 115, 116]⟩, .string ⟨#[114, 101, 100]⟩, .string ⟨#[97]⟩] 9)).heap.size := by have := hbw.size; omega
          replace HR := Hid.intro (HR.out.below hbw HR.out.lt)
          clear hbw
          refine hKK.out _ _ HA.out (fun hS => ?_)
          clear hKK KK hS
          generalize wn.heap.size = gB at *
          generalize wn.alloc (Obj.cells #[.string ⟨#[101, 97, 115, 116]⟩, .string ⟨#[119, 101, 115, 116]⟩, .string ⟨#[114, 101, 100]⟩, .string ⟨#[97]⟩] 9) = wn at *
          refine wpAnyH_mono (S' := fun wy => Blk gA #[.string ⟨#[122, 111, 110, 101]⟩, .string ⟨#[99, 111, 108, 111, 114]⟩, .string ⟨#[115, 115, 100]⟩] 9 wy ∧ Blk gB #[.string ⟨#[101, 97, 115, 116]⟩, .string ⟨#[119, 101, 115, 116]⟩, .string ⟨#[114, 101, 100]⟩, .string ⟨#[97]⟩] 9 wy) (fun _ h => h.1) _ _ _ _ ?_
          have hS : (fun wy => Blk gA #[.string ⟨#[122, 111, 110, 101]⟩, .string ⟨#[99, 111, 108, 111, 114]⟩, .string ⟨#[115, 115, 100]⟩] 9 wy ∧ Blk gB #[.string ⟨#[101, 97, 115, 116]⟩, .string ⟨#[119, 101, 115, 116]⟩, .string ⟨#[114, 101, 100]⟩, .string ⟨#[97]⟩] 9 wy) wn := ⟨HA.out, HC.out⟩
          obtain ⟨s2, hd2, hz2⟩ := tabS [⟨#[101, 97, 115, 116]⟩, ⟨#[119, 101, 115, 116]⟩, ⟨#[114, 101, 100]⟩, ⟨#[97]⟩] u2 (by simp; omega) (by decide)
          refine wpAnyH_take (i := 8) (oi := { dst := some 18, op := _, type := _, pos := _, after := _, guard := none }) (v := .pointer (some ⟨gB, u2, none⟩)) rfl (by kernel_rfl) (by kernel_rfl) (by kernel_rfl) (fun _ _ _ h => h) (Or.inl ⟨by rfl, ?_⟩) hS ?_
          · intro wy hy
            clear hy
            first | (go_simp; done) | (go_simp; omega) | (go_simp; intro hh; omega)
          simp only [Act.put, List.setIfInBounds_toArray, List.set_cons_zero, List.set_cons_succ]
          refine wpAnyH_take (i := 9) (oi := { dst := some 19, op := _, type := _, pos := _, after := _, guard := none }) (v := .string s2) rfl (by kernel_rfl) (by kernel_rfl) (by kernel_rfl) (fun _ _ _ h => h) (Or.inl ⟨by rfl, ?_⟩) hS ?_
          · intro wy hy
            have h0 := (hy.2).cell (o := u2) (v := .string s2) hd2
            clear hy
            go_simp
          simp only [Act.put, List.setIfInBounds_toArray, List.set_cons_zero, List.set_cons_succ]
          refine wpAnyH_take (i := 10) (oi := { dst := some 20, op := _, type := _, pos := _, after := _, guard := none }) (v := .agg #[.int .i64 2, .string s1, .string s2, .int .i64 0]) rfl (by kernel_rfl) (by kernel_rfl) (by kernel_rfl) (fun _ _ _ h => h) (Or.inl ⟨by rfl, ?_⟩) hS ?_
          · intro wy hy
            clear hy
            go_simp
          simp only [Act.put, List.setIfInBounds_toArray, List.set_cons_zero, List.set_cons_succ]
          have HN := Hid.intro (node_row wn ⟨2, s1, s2, 0⟩ 36 w.heap.size hs1)
          have hba : Below wn.heap.size wn (wn.alloc (.cells #[.int .i64 2, .string s1, .string s2, .int .i64 0] 36)) := (Below.refl _ _).alloc (Nat.le_refl _) _
          refine wpAnyH_ready (rs := [11]) (by kernel_rfl) (by simp) (AllReadyH.cons (o := { dst := some 21, op := _, type := _, pos := _, after := _, guard := none }) rfl (fun KK hKK => ?_) AllReadyH.nil)
          go_simp
          refine hKK.out _ _ ⟨HA.out.below hba HA.out.lt, HC.out.below hba HC.out.lt⟩ (fun hS => ?_)
          clear hKK KK
          refine wpAnyH_take (i := 12) (oi := { dst := some 2, op := _, type := _, pos := _, after := _, guard := none }) (v := .slice (some ⟨wn.heap.size, 0, none⟩) 1 1) rfl (by kernel_rfl) (by kernel_rfl) (by kernel_rfl) (fun _ _ _ h => h) (Or.inl ⟨by rfl, ?_⟩) hS ?_
          · intro wy hy
            clear hy
            go_simp
          simp only [Act.put, List.setIfInBounds_toArray, List.set_cons_zero, List.set_cons_succ]
          refine wpAnyH_done (by kernel_rfl) ?_ _
          clear hS
          go_wp2_with fail
          go_ret
          exact ⟨_, rfl, [⟨2, s1, s2, 0⟩], HN.out, by simp, by simp, Sh.one hz1 hz2, (HR.out.below hba HR.out.lt).mono (by omega), HB.out.trans ((Bt.of_below hba).mono hs1)⟩
      · skip
        go_simp
        have HC : Hid (Blk wn.heap.size #[.string ⟨#[101, 97, 115, 116]⟩, .string ⟨#[119, 101, 115, 116]⟩, .string ⟨#[114, 101, 100]⟩, .string ⟨#[97]⟩] 9 (wn.alloc (Obj.cells #[.string ⟨#[101, 97, 115, 116]⟩, .string ⟨#[119, 101, 115, 116]⟩, .string ⟨#[114, 101, 100]⟩, .string ⟨#[97]⟩] 9))) := Blk.alloc _ _ _
        have hbw : Below wn.heap.size wn (wn.alloc (Obj.cells #[.string ⟨#[101, 97, 115, 116]⟩, .string ⟨#[119, 101, 115, 116]⟩, .string ⟨#[114, 101, 100]⟩, .string ⟨#[97]⟩] 9)) := (Below.refl _ _).alloc (Nat.le_refl _) _
        replace HA := Hid.intro (HA.out.below hbw HA.out.lt)
        have hgB : w.heap.size ≤ wn.heap.size := hs1
        replace HB := Hid.intro (HB.out.trans ((Bt.of_below hbw).mono hs1))
        replace hs1 : w.heap.size ≤ (wn.alloc (Obj.cells #[.string ⟨#[101, 97, 115, 116]⟩, .string ⟨#[119, 101, 115, 116]⟩, .string ⟨#[114, 101, 100]⟩, .string ⟨#[97]⟩] 9)).heap.size := by have := hbw.size; omega
        replace HR := Hid.intro (HR.out.below hbw HR.out.lt)
        clear hbw
        refine hKK.out _ _ HA.out (fun hS => ?_)
        clear hKK KK hS
        generalize wn.heap.size = gB at *
        generalize wn.alloc (Obj.cells #[.string ⟨#[101, 97, 115, 116]⟩, .string ⟨#[119, 101, 115, 116]⟩, .string ⟨#[114, 101, 100]⟩, .string ⟨#[97]⟩] 9) = wn at *
        refine wpAnyH_mono (S' := fun wy => Blk gA #[.string ⟨#[122, 111, 110, 101]⟩, .string ⟨#[99, 111, 108, 111, 114]⟩, .string ⟨#[115, 115, 100]⟩] 9 wy ∧ Blk gB #[.string ⟨#[101, 97, 115, 116]⟩, .string ⟨#[119, 101, 115, 116]⟩, .string ⟨#[114, 101, 100]⟩, .string ⟨#[97]⟩] 9 wy) (fun _ h => h.1) _ _ _ _ ?_
        have hS : (fun wy => Blk gA #[.string ⟨#[122, 111, 110, 101]⟩, .string ⟨#[99, 111, 108, 111, 114]⟩, .string ⟨#[115, 115, 100]⟩] 9 wy ∧ Blk gB #[.string ⟨#[101, 97, 115, 116]⟩, .string ⟨#[119, 101, 115, 116]⟩, .string ⟨#[114, 101, 100]⟩, .string ⟨#[97]⟩] 9 wy) wn := ⟨HA.out, HC.out⟩
        refine wpAnyH_ready (rs := [2]) (by kernel_rfl) (by simp) (AllReadyH.cons (o := { dst := some 12, op := _, type := _, pos := _, after := _, guard := none }) rfl (fun KK hKK => ?_) AllReadyH.nil)
        go_simp
        refine (pickL p (n + 1) 3 _ HR.out (by omega) (by omega) (by omega)).mono ?_
        rintro e wn ⟨u1, rfl, hu1, hr, hb⟩
        replace HA := Hid.intro (HA.out.bt hb HA.out.lt (by omega))
        replace HC := Hid.intro (HC.out.bt hb HC.out.lt (by omega))
        replace HB := Hid.intro (HB.out.trans (hb.mono hs1))
        replace hs1 : w.heap.size ≤ wn.heap.size := by have := hb.size; omega
        replace HR := Hid.intro hr
        refine hKK.out _ _ ⟨HA.out, HC.out⟩ (fun hS => ?_)
        clear hKK KK hb hr
        obtain ⟨s1, hd1, hz1⟩ := tabS [⟨#[122, 111, 110, 101]⟩, ⟨#[99, 111, 108, 111, 114]⟩, ⟨#[115, 115, 100]⟩] u1 (by simp; omega) (by decide)
        refine wpAnyH_take (i := 3) (oi := { dst := some 13, op := _, type := _, pos := _, after := _, guard := none }) (v := .pointer (some ⟨gA, u1, none⟩)) rfl (by kernel_rfl) (by kernel_rfl) (by kernel_rfl) (fun _ _ _ h => h) (Or.inl ⟨by rfl, ?_⟩) hS ?_
        · intro wy hy
          clear hy
          first | (go_simp; done) | (go_simp; omega) | (go_simp; intro hh; omega)
        simp only [Act.put, List.setIfInBounds_toArray, List.set_cons_zero, List.set_cons_succ]
        refine wpAnyH_take (i := 4) (oi := { dst := some 14, op := _, type := _, pos := _, after := _, guard := none }) (v := .string s1) rfl (by kernel_rfl) (by kernel_rfl) (by kernel_rfl) (fun _ _ _ h => h) (Or.inl ⟨by rfl, ?_⟩) hS ?_
        · intro wy hy
          have h0 := (hy.1).cell (o := u1) (v := .string s1) hd1
          clear hy
          go_simp
        simp only [Act.put, List.setIfInBounds_toArray, List.set_cons_zero, List.set_cons_succ]
        refine wpAnyH_ready (rs := [7]) (by kernel_rfl) (by simp) (AllReadyH.cons (o := { dst := some 17, op := _, type := _, pos := _, after := _, guard := none }) rfl (fun KK hKK => ?_) AllReadyH.nil)
        go_simp
        refine (pickL p (n + 2) 4 _ HR.out (by omega) (by omega) (by omega)).mono ?_
        rintro e wn ⟨u2, rfl, hu2, hr, hb⟩
        replace HA := Hid.intro (HA.out.bt hb HA.out.lt (by omega))
        replace HC := Hid.intro (HC.out.bt hb HC.out.lt (by omega))
        replace HB := Hid.intro (HB.out.trans (hb.mono hs1))
        replace hs1 : w.heap.size ≤ wn.heap.size := by have := hb.size; omega
        replace HR := Hid.intro hr
        refine hKK.out _ _ ⟨HA.out, HC.out⟩ (fun hS => ?_)
        clear hKK KK hb hr
        obtain ⟨s2, hd2, hz2⟩ := tabS [⟨#[101, 97, 115, 116]⟩, ⟨#[119, 101, 115, 116]⟩, ⟨#[114, 101, 100]⟩, ⟨#[97]⟩] u2 (by simp; omega) (by decide)
        refine wpAnyH_take (i := 8) (oi := { dst := some 18, op := _, type := _, pos := _, after := _, guard := none }) (v := .pointer (some ⟨gB, u2, none⟩)) rfl (by kernel_rfl) (by kernel_rfl) (by kernel_rfl) (fun _ _ _ h => h) (Or.inl ⟨by rfl, ?_⟩) hS ?_
        · intro wy hy
          clear hy
          first | (go_simp; done) | (go_simp; omega) | (go_simp; intro hh; omega)
        simp only [Act.put, List.setIfInBounds_toArray, List.set_cons_zero, List.set_cons_succ]
        refine wpAnyH_take (i := 9) (oi := { dst := some 19, op := _, type := _, pos := _, after := _, guard := none }) (v := .string s2) rfl (by kernel_rfl) (by kernel_rfl) (by kernel_rfl) (fun _ _ _ h => h) (Or.inl ⟨by rfl, ?_⟩) hS ?_
        · intro wy hy
          have h0 := (hy.2).cell (o := u2) (v := .string s2) hd2
          clear hy
          go_simp
        simp only [Act.put, List.setIfInBounds_toArray, List.set_cons_zero, List.set_cons_succ]
        refine wpAnyH_take (i := 10) (oi := { dst := some 20, op := _, type := _, pos := _, after := _, guard := none }) (v := .agg #[.int .i64 2, .string s1, .string s2, .int .i64 0]) rfl (by kernel_rfl) (by kernel_rfl) (by kernel_rfl) (fun _ _ _ h => h) (Or.inl ⟨by rfl, ?_⟩) hS ?_
        · intro wy hy
          clear hy
          go_simp
        simp only [Act.put, List.setIfInBounds_toArray, List.set_cons_zero, List.set_cons_succ]
        have HN := Hid.intro (node_row wn ⟨2, s1, s2, 0⟩ 36 w.heap.size hs1)
        have hba : Below wn.heap.size wn (wn.alloc (.cells #[.int .i64 2, .string s1, .string s2, .int .i64 0] 36)) := (Below.refl _ _).alloc (Nat.le_refl _) _
        refine wpAnyH_ready (rs := [11]) (by kernel_rfl) (by simp) (AllReadyH.cons (o := { dst := some 21, op := _, type := _, pos := _, after := _, guard := none }) rfl (fun KK hKK => ?_) AllReadyH.nil)
        go_simp
        refine hKK.out _ _ ⟨HA.out.below hba HA.out.lt, HC.out.below hba HC.out.lt⟩ (fun hS => ?_)
        clear hKK KK
        refine wpAnyH_take (i := 12) (oi := { dst := some 2, op := _, type := _, pos := _, after := _, guard := none }) (v := .slice (some ⟨wn.heap.size, 0, none⟩) 1 1) rfl (by kernel_rfl) (by kernel_rfl) (by kernel_rfl) (fun _ _ _ h => h) (Or.inl ⟨by rfl, ?_⟩) hS ?_
        · intro wy hy
          clear hy
          go_simp
        simp only [Act.put, List.setIfInBounds_toArray, List.set_cons_zero, List.set_cons_succ]
        refine wpAnyH_done (by kernel_rfl) ?_ _
        clear hS
        go_wp2_with fail
        go_ret
        exact ⟨_, rfl, [⟨2, s1, s2, 0⟩], HN.out, by simp, by simp, Sh.one hz1 hz2, (HR.out.below hba HR.out.lt).mono (by omega), HB.out.trans ((Bt.of_below hba).mono hs1)⟩
    · skip
      go_simp
      refine (pickL p (n + 1) 3 _ HR.out (by omega) (by omega) (by omega)).mono ?_
      rintro e wn ⟨u1, rfl, hu1, hr, hb⟩
      replace HB := Hid.intro (HB.out.trans (hb.mono hs1))
      replace hs1 : w.heap.size ≤ wn.heap.size := by have := hb.size; omega
      replace HR := Hid.intro hr
      refine hKK.out _ _ trivial (fun hS => ?_)
      clear hKK KK hb hr
      refine wpAnyH_ready (rs := [0, 5, 7]) (by kernel_rfl) (by simp) (AllReadyH.cons (o := { dst := some 10, op := _, type := _, pos := _, after := _, guard := none }) rfl (fun KK hKK => ?_) (AllReadyH.cons (o := { dst := some 15, op := _, type := _, pos := _, after := _, guard := none }) rfl (fun KK hKK => ?_) (AllReadyH.cons (o := { dst := some 17, op := _, type := _, pos := _, after := _, guard := none }) rfl (fun KK hKK => ?_) AllReadyH.nil)))
      · skip
        go_simp
        have HA : Hid (Blk wn.heap.size #[.string ⟨#[122, 111, 110, 101]⟩, .string ⟨#[99, 111, 108, 111, 114]⟩, .string ⟨#[115, 115, 100]⟩] 9 (wn.alloc (Obj.cells #[.string ⟨#[122, 111, 110, 101]⟩, .string ⟨#[99, 111, 108, 111, 114]⟩, .string ⟨#[115, 115, 100]⟩] 9))) := Blk.alloc _ _ _
        have hbw : Below wn.heap.size wn (wn.alloc (Obj.cells #[.string ⟨#[122, 111, 110, 101]⟩, .string ⟨#[99, 111, 108, 111, 114]⟩, .string ⟨#[115, 115, 100]⟩] 9)) := (Below.refl _ _).alloc (Nat.le_refl _) _
        have hgA : w.heap.size ≤ wn.heap.size := hs1
        replace HB := Hid.intro (HB.out.trans ((Bt.of_below hbw).mono hs1))
        replace hs1 : w.heap.size ≤ (wn.alloc (Obj.cells #[.string ⟨#[122, 111, 110, 101]⟩, .string ⟨#[99, 111, 108, 111, 114]⟩, .string ⟨#[115, 115, 100]⟩] 9)).heap.size := by have := hbw.size; omega
        replace HR := Hid.intro (HR.out.below hbw HR.out.lt)
        clear hbw
        refine hKK.out _ _ trivial (fun hS => ?_)
        clear hKK KK hS
        generalize wn.heap.size = gA at *
        generalize wn.alloc (Obj.cells #[.string ⟨#[122, 111, 110, 101]⟩, .string ⟨#[99, 111, 108, 111, 114]⟩, .string ⟨#[115, 115, 100]⟩] 9) = wn at *
        refine wpAnyH_mono (S' := fun wy => Blk gA #[.string ⟨#[122, 111, 110, 101]⟩, .string ⟨#[99, 111, 108, 111, 114]⟩, .string ⟨#[115, 115, 100]⟩] 9 wy) (fun _ h => trivial) _ _ _ _ ?_
        have hS : (fun wy => Blk gA #[.string ⟨#[122, 111, 110, 101]⟩, .string ⟨#[99, 111, 108, 111, 114]⟩, .string ⟨#[115, 115, 100]⟩] 9 wy) wn := HA.out
        obtain ⟨s1, hd1, hz1⟩ := tabS [⟨#[122, 111, 110, 101]⟩, ⟨#[99, 111, 108, 111, 114]⟩, ⟨#[115, 115, 100]⟩] u1 (by simp; omega) (by decide)
        refine wpAnyH_take (i := 3) (oi := { dst := some 13, op := _, type := _, pos := _, after := _, guard := none }) (v := .pointer (some ⟨gA, u1, none⟩)) rfl (by kernel_rfl) (by kernel_rfl) (by kernel_rfl) (fun _ _ _ h => h) (Or.inl ⟨by rfl, ?_⟩) hS ?_
        · intro wy hy
          clear hy
          first | (go_simp; done) | (go_simp; omega) | (go_simp; intro hh; omega)
        simp only [Act.put, List.setIfInBounds_toArray, List.set_cons_zero, List.set_cons_succ]
        refine wpAnyH_take (i := 4) (oi := { dst := some 14, op := _, type := _, pos := _, after := _, guard := none }) (v := .string s1) rfl (by kernel_rfl) (by kernel_rfl) (by kernel_rfl) (fun _ _ _ h => h) (Or.inl ⟨by rfl, ?_⟩) hS ?_
        · intro wy hy
          have h0 := (hy).cell (o := u1) (v := .string s1) hd1
          clear hy
          go_simp
        simp only [Act.put, List.setIfInBounds_toArray, List.set_cons_zero, List.set_cons_succ]
        refine wpAnyH_ready (rs := [5, 7]) (by kernel_rfl) (by simp) (AllReadyH.cons (o := { dst := some 15, op := _, type := _, pos := _, after := _, guard := none }) rfl (fun KK hKK => ?_) (AllReadyH.cons (o := { dst := some 17, op := _, type := _, pos := _, after := _, guard := none }) rfl (fun KK hKK => ?_) AllReadyH.nil))
        · skip
          go_simp
          have HC : Hid (Blk wn.heap.size #[.string ⟨#[101, 97, 115, 116]⟩, .string ⟨#[119, 101, 115, 116]⟩, .string ⟨#[114, 101, 100]⟩, .string ⟨#[97]⟩] 9 (wn.alloc (Obj.cells #[.string ⟨#[101, 97, 115, 116]⟩, .string ⟨#[119, 101, 115, 116]⟩, .string ⟨#[114, 101, 100]⟩, .string ⟨#[97]⟩] 9))) := Blk.alloc _ _ _
          have hbw : Below wn.heap.size wn (wn.alloc (Obj.cells #[.string ⟨#[101, 97, 115, 116]⟩, .string ⟨#[119, 101, 115, 116]⟩, .string ⟨#[114, 101, 100]⟩, .string ⟨#[97]⟩] 9)) := (Below.refl _ _).alloc (Nat.le_refl _) _
          replace HA := Hid.intro (HA.out.below hbw HA.out.lt)
          have hgB : w.heap.size ≤ wn.heap.size := hs1
          replace HB := Hid.intro (HB.out.trans ((Bt.of_below hbw).mono hs1))
          replace hs1 : w.heap.size ≤ (wn.alloc (Obj.cells #[.string ⟨#[101, 97, 115, 116]⟩, .string ⟨#[119, 101, 115, 116]⟩, .string ⟨#[114, 101, 100]⟩, .string ⟨#[97]⟩] 9)).heap.size := by have := hbw.size; omega
          replace HR := Hid.intro (HR.out.below hbw HR.out.lt)
          clear hbw
          refine hKK.out _ _ HA.out (fun hS => ?_)
          clear hKK KK hS
          generalize wn.heap.size = gB at *
          generalize wn.alloc (Obj.cells #[.string ⟨#[101, 97, 115, 116]⟩, .string ⟨#[119, 101, 115, 116]⟩, .string ⟨#[114, 101, 100]⟩, .string ⟨#[97]⟩] 9) = wn at *
          refine wpAnyH_mono (S' := fun wy => Blk gA #[.string ⟨#[122, 111, 110, 101]⟩, .string ⟨#[99, 111, 108, 111, 114]⟩, .string ⟨#[115, 115, 100]⟩] 9 wy ∧ Blk gB #[.string ⟨#[101, 97, 115, 116]⟩, .string ⟨#[119, 101, 115, 116]⟩, .string ⟨#[114, 101, 100]⟩, .string ⟨#[97]⟩] 9 wy) (fun _ h => h.1) _ _ _ _ ?_
          have hS : (fun wy => Blk gA #[.string ⟨#[122, 111, 110, 101]⟩, .string ⟨#[99, 111, 108, 111, 114]⟩, .string ⟨#[115, 115, 100]⟩] 9 wy ∧ Blk gB #[.string ⟨#[101, 97, 115, 116]⟩, .string ⟨#[119, 101, 115, 116]⟩, .string ⟨#[114, 101, 100]⟩, .string ⟨#[97]⟩] 9 wy) wn := ⟨HA.out, HC.out⟩
          refine wpAnyH_ready (rs := [7]) (by kernel_rfl) (by simp) (AllReadyH.cons (o := { dst := some 17, op := _, type := _, pos := _, after := _, guard := none }) rfl (fun KK hKK => ?_) AllReadyH.nil)
          go_simp
          refine (pickL p (n + 2) 4 _ HR.out (by omega) (by omega) (by omega)).mono ?_
          rintro e wn ⟨u2, rfl, hu2, hr, hb⟩
          replace HA := Hid.intro (HA.out.bt hb HA.out.lt (by omega))
          replace HC := Hid.intro (HC.out.bt hb HC.out.lt (by omega))
          replace HB := Hid.intro (HB.out.trans (hb.mono hs1))
          replace hs1 : w.heap.size ≤ wn.heap.size := by have := hb.size; omega
          replace HR := Hid.intro hr
          refine hKK.out _ _ ⟨HA.out, HC.out⟩ (fun hS => ?_)
          clear hKK KK hb hr
          obtain ⟨s2, hd2, hz2⟩ := tabS [⟨#[101, 97, 115, 116]⟩, ⟨#[119, 101, 115, 116]⟩, ⟨#[114, 101, 100]⟩, ⟨#[97]⟩] u2 (by simp; omega) (by decide)
          refine wpAnyH_take (i := 8) (oi := { dst := some 18, op := _, type := _, pos := _, after := _, guard := none }) (v := .pointer (some ⟨gB, u2, none⟩)) rfl (by kernel_rfl) (by kernel_rfl) (by kernel_rfl) (fun _ _ _ h => h) (Or.inl ⟨by rfl, ?_⟩) hS ?_
          · intro wy hy
            clear hy
            first | (go_simp; done) | (go_simp; omega) | (go_simp; intro hh; omega)
          simp only [Act.put, List.setIfInBounds_toArray, List.set_cons_zero, List.set_cons_succ]
          refine wpAnyH_take (i := 9) (oi := { dst := some 19, op := _, type := _, pos := _, after := _, guard := none }) (v := .string s2) rfl (by kernel_rfl) (by kernel_rfl) (by kernel_rfl) (fun _ _ _ h => h) (Or.inl ⟨by rfl, ?_⟩) hS ?_
          · intro wy hy
            have h0 := (hy.2).cell (o := u2) (v := .string s2) hd2
            clear hy
            go_simp
          simp only [Act.put, List.setIfInBounds_toArray, List.set_cons_zero, List.set_cons_succ]
          refine wpAnyH_take (i := 10) (oi := { dst := some 20, op := _, type := _, pos := _, after := _, guard := none }) (v := .agg #[.int .i64 2, .string s1, .string s2, .int .i64 0]) rfl (by kernel_rfl) (by kernel_rfl) (by kernel_rfl) (fun _ _ _ h => h) (Or.inl ⟨by rfl, ?_⟩) hS ?_
          · intro wy hy
            clear hy
            go_simp
          simp only [Act.put, List.setIfInBounds_toArray, List.set_cons_zero, List.set_cons_succ]
          have HN := Hid.intro (node_row wn ⟨2, s1, s2, 0⟩ 36 w.heap.size hs1)
          have hba : Below wn.heap.size wn (wn.alloc (.cells #[.int .i64 2, .string s1, .string s2, .int .i64 0] 36)) := (Below.refl _ _).alloc (Nat.le_refl _) _
          refine wpAnyH_ready (rs := [11]) (by kernel_rfl) (by simp) (AllReadyH.cons (o := { dst := some 21, op := _, type := _, pos := _, after := _, guard := none }) rfl (fun KK hKK => ?_) AllReadyH.nil)
          go_simp
          refine hKK.out _ _ ⟨HA.out.below hba HA.out.lt, HC.out.below hba HC.out.lt⟩ (fun hS => ?_)
          clear hKK KK
          refine wpAnyH_take (i := 12) (oi := { dst := some 2, op := _, type := _, pos := _, after := _, guard := none }) (v := .slice (some ⟨wn.heap.size, 0, none⟩) 1 1) rfl (by kernel_rfl) (by kernel_rfl) (by kernel_rfl) (fun _ _ _ h => h) (Or.inl ⟨by rfl, ?_⟩) hS ?_
          · intro wy hy
            clear hy
            go_simp
          simp only [Act.put, List.setIfInBounds_toArray, List.set_cons_zero, List.set_cons_succ]
          refine wpAnyH_done (by kernel_rfl) ?_ _
          clear hS
          go_wp2_with fail
          go_ret
          exact ⟨_, rfl, [⟨2, s1, s2, 0⟩], HN.out, by simp, by simp, Sh.one hz1 hz2, (HR.out.below hba HR.out.lt).mono (by omega), HB.out.trans ((Bt.of_below hba).mono hs1)⟩
        · skip
          go_simp
          refine (pickL p (n + 2) 4 _ HR.out (by omega) (by omega) (by omega)).mono ?_
          rintro e wn ⟨u2, rfl, hu2, hr, hb⟩
          replace HA := Hid.intro (HA.out.bt hb HA.out.lt (by omega))
          replace HB := Hid.intro (HB.out.trans (hb.mono hs1))
          replace hs1 : w.heap.size ≤ wn.heap.size := by have := hb.size; omega
          replace HR := Hid.intro hr
          refine hKK.out _ _ HA.out (fun hS => ?_)
          clear hKK KK hb hr
          refine wpAnyH_ready (rs := [5]) (by kernel_rfl) (by simp) (AllReadyH.cons (o := { dst := some 15, op := _, type := _, pos := _, after := _, guard := none }) rfl (fun KK hKK => ?_) AllReadyH.nil)
          go_simp
          have HC : Hid (Blk wn.heap.size #[.string ⟨#[101, 97, 115, 116]⟩, .string ⟨#[119, 101, 115, 116]⟩, .string ⟨#[114, 101, 100]⟩, .string ⟨#[97]⟩] 9 (wn.alloc (Obj.cells #[.string ⟨#[101, 97, 115, 116]⟩, .string ⟨#[119, 101, 115, 116]⟩, .string ⟨#[114, 101, 100]⟩, .string ⟨#[97]⟩] 9))) := Blk.alloc _ _ _
          have hbw : Below wn.heap.size wn (wn.alloc (Obj.cells #[.string ⟨#[101, 97, 115, 116]⟩, .string ⟨#[119, 101, 115, 116]⟩, .string ⟨#[114, 101, 100]⟩, .string ⟨#[97]⟩] 9)) := (Below.refl _ _).alloc (Nat.le_refl _) _
          replace HA := Hid.intro (HA.out.below hbw HA.out.lt)
          have hgB : w.heap.size ≤ wn.heap.size := hs1
          replace HB := Hid.intro (HB.out.trans ((Bt.of_below hbw).mono hs1))
          replace hs1 : w.heap.size ≤ (wn.alloc (Obj.cells #[.string ⟨#[101, 97, 115, 116]⟩, .string ⟨#[119, 101, 115, 116]⟩, .string ⟨#[114, 101, 100]⟩, .string ⟨#[97]⟩] 9)).heap.size := by have := hbw.size; omega
          replace HR := Hid.intro (HR.out.below hbw HR.out.lt)
          clear hbw
          refine hKK.out _ _ HA.out (fun hS => ?_)
          clear hKK KK hS
          generalize wn.heap.size = gB at *
          generalize wn.alloc (Obj.cells #[.string ⟨#[101, 97, 115, 116]⟩, .string ⟨#[119, 101, 115, 116]⟩, .string ⟨#[114, 101, 100]⟩, .string ⟨#[97]⟩] 9) = wn at *
          refine wpAnyH_mono (S' := fun wy => Blk gA #[.string ⟨#[122, 111, 110, 101]⟩, .string ⟨#[99, 111, 108, 111, 114]⟩, .string ⟨#[115, 115, 100]⟩] 9 wy ∧ Blk gB #[.string ⟨#[101, 97, 115, 116]⟩, .string ⟨#[119, 101, 115, 116]⟩, .string ⟨#[114, 101, 100]⟩, .string ⟨#[97]⟩] 9 wy) (fun _ h => h.1) _ _ _ _ ?_
          have hS : (fun wy => Blk gA #[.string ⟨#[122, 111, 110, 101]⟩, .string ⟨#[99, 111, 108, 111, 114]⟩, .string ⟨#[115, 115, 100]⟩] 9 wy ∧ Blk gB #[.string ⟨#[101, 97, 115, 116]⟩, .string ⟨#[119, 101, 115, 116]⟩, .string ⟨#[114, 101, 100]⟩, .string ⟨#[97]⟩] 9 wy) wn := ⟨HA.out, HC.out⟩
          obtain ⟨s2, hd2, hz2⟩ := tabS [⟨#[101, 97, 115, 116]⟩, ⟨#[119, 101, 115, 116]⟩, ⟨#[114, 101, 100]⟩, ⟨#[97]⟩] u2 (by simp; omega) (by decide)
          refine wpAnyH_take (i := 8) (oi := { dst := some 18, op := _, type := _, pos := _, after := _, guard := none }) (v := .pointer (some ⟨gB, u2, none⟩)) rfl (by kernel_rfl) (by kernel_rfl) (by kernel_rfl) (fun _ _ _ h => h) (Or.inl ⟨by rfl, ?_⟩) hS ?_
          · intro wy hy
            clear hy
            first | (go_simp; done) | (go_simp; omega) | (go_simp; intro hh; omega)
          simp only [Act.put, List.setIfInBounds_toArray, List.set_cons_zero, List.set_cons_succ]
          refine wpAnyH_take (i := 9) (oi := { dst := some 19, op := _, type := _, pos := _, after := _, guard := none }) (v := .string s2) rfl (by kernel_rfl) (by kernel_rfl) (by kernel_rfl) (fun _ _ _ h => h) (Or.inl ⟨by rfl, ?_⟩) hS ?_
          · intro wy hy
            have h0 := (hy.2).cell (o := u2) (v := .string s2) hd2
            clear hy
            go_simp
          simp only [Act.put, List.setIfInBounds_toArray, List.set_cons_zero, List.set_cons_succ]
          refine wpAnyH_take (i := 10) (oi := { dst := some 20, op := _, type := _, pos := _, after := _, guard := none }) (v := .agg #[.int .i64 2, .string s1, .string s2, .int .i64 0]) rfl (by kernel_rfl) (by kernel_rfl) (by kernel_rfl) (fun _ _ _ h => h) (Or.inl ⟨by rfl, ?_⟩) hS ?_
          · intro wy hy
            clear hy
            go_simp
          simp only [Act.put, List.setIfInBounds_toArray, List.set_cons_zero, List.set_cons_succ]
          have HN := Hid.intro (node_row wn ⟨2, s1, s2, 0⟩ 36 w.heap.size hs1)
          have hba : Below wn.heap.size wn (wn.alloc (.cells #[.int .i64 2, .string s1, .string s2, .int .i64 0] 36)) := (Below.refl _ _).alloc (Nat.le_refl _) _
          refine wpAnyH_ready (rs := [11]) (by kernel_rfl) (by simp) (AllReadyH.cons (o := { dst := some 21, op := _, type := _, pos := _, after := _, guard := none }) rfl (fun KK hKK => ?_) AllReadyH.nil)
          go_simp
          refine hKK.out _ _ ⟨HA.out.below hba HA.out.lt, HC.out.below hba HC.out.lt⟩ (fun hS => ?_)
          clear hKK KK
          refine wpAnyH_take (i := 12) (oi := { dst := some 2, op := _, type := _, pos := _, after := _, guard := none }) (v := .slice (some ⟨wn.heap.size, 0, none⟩) 1 1) rfl (by kernel_rfl) (by kernel_rfl) (by kernel_rfl) (fun _ _ _ h => h) (Or.inl ⟨by rfl, ?_⟩) hS ?_
          · intro wy hy
            clear hy
            go_simp
          simp only [Act.put, List.setIfInBounds_toArray, List.set_cons_zero, List.set_cons_succ]
          refine wpAnyH_done (by kernel_rfl) ?_ _
          clear hS
          go_wp2_with fail
          go_ret
          exact ⟨_, rfl, [⟨2, s1, s2, 0⟩], HN.out, by simp, by simp, Sh.one hz1 hz2, (HR.out.below hba HR.out.lt).mono (by omega), HB.out.trans ((Bt.of_below hba).mono hs1)⟩
      · skip
        go_simp
        have HC : Hid (Blk wn.heap.size #[.string ⟨#[101, 97, 115, 116]⟩, .string ⟨#[119, 101, 115, 116]⟩, .string ⟨#[114, 101, 100]⟩, .string ⟨#[97]⟩] 9 (wn.alloc (Obj.cells #[.string ⟨#[101, 97, 115, 116]⟩, .string ⟨#[119, 101, 115, 116]⟩, .string ⟨#[114, 101, 100]⟩, .string ⟨#[97]⟩] 9))) := Blk.alloc _ _ _
        have hbw : Below wn.heap.size wn (wn.alloc (Obj.cells #[.string ⟨#[101, 97, 115, 116]⟩, .string ⟨#[119, 101, 115, 116]⟩, .string ⟨#[114, 101, 100]⟩, .string ⟨#[97]⟩] 9)) := (Below.refl _ _).alloc (Nat.le_refl _) _
        have hgB : w.heap.size ≤ wn.heap.size := hs1
        replace HB := Hid.intro (HB.out.trans ((Bt.of_below hbw).mono hs1))
        replace hs1 : w.heap.size ≤ (wn.alloc (Obj.cells #[.string ⟨#[101, 97, 115, 116]⟩, .string ⟨#[119, 101, 115, 116]⟩, .string ⟨#[114, 101, 100]⟩, .string ⟨#[97]⟩] 9)).heap.size := by have := hbw.size; omega
        replace HR := Hid.intro (HR.out.below hbw HR.out.lt)
        clear hbw
        refine hKK.out _ _ trivial (fun hS => ?_)
        clear hKK KK hS
        generalize wn.heap.size = gB at *
        generalize wn.alloc (Obj.cells #[.string ⟨#[101, 97, 115, 116]⟩, .string ⟨#[119, 101, 115, 116]⟩, .string ⟨#[114, 101, 100]⟩, .string ⟨#[97]⟩] 9) = wn at *
        refine wpAnyH_mono (S' := fun wy => Blk gB #[.string ⟨#[101, 97, 115, 116]⟩, .string ⟨#[119, 101, 115, 116]⟩, .string ⟨#[114, 101, 100]⟩, .string ⟨#[97]⟩] 9 wy) (fun _ h => trivial) _ _ _ _ ?_
        have hS : (fun wy => Blk gB #[.string ⟨#[101, 97, 115, 116]⟩, .string ⟨#[119, 101, 115, 116]⟩, .string ⟨#[114, 101, 100]⟩, .string ⟨#[97]⟩] 9 wy) wn := HC.out
        refine wpAnyH_ready (rs := [0, 7]) (by kernel_rfl) (by simp) (AllReadyH.cons (o := { dst := some 10, op := _, type := _, pos := _, after := _, guard := none }) rfl (fun KK hKK => ?_) (AllReadyH.cons (o := { dst := some 17, op := _, type := _, pos := _, after := _, guard := none }) rfl (fun KK hKK => ?_) AllReadyH.nil))
        · skip
          go_simp
          have HA : Hid (Blk wn.heap.size #[.string ⟨#[122, 111, 110, 101]⟩, .string ⟨#[99, 111, 108, 111, 114]⟩, .string ⟨#[115, 115, 100]⟩] 9 (wn.alloc (Obj.cells #[.string ⟨#[122, 111, 110, 101]⟩, .string ⟨#[99, 111, 108, 111, 114]⟩, .string ⟨#[115, 115, 100]⟩] 9))) := Blk.alloc _ _ _
          have hbw : Below wn.heap.size wn (wn.alloc (Obj.cells #[.string ⟨#[122, 111, 110, 101]⟩, .string ⟨#[99, 111, 108, 111, 114]⟩, .string ⟨#[115, 115, 100]⟩] 9)) := (Below.refl _ _).alloc (Nat.le_refl _) _
          replace HC := Hid.intro (HC.out.below hbw HC.out.lt)
          have hgA : w.heap.size ≤ wn.heap.size := hs1
          replace HB := Hid.intro (HB.out.trans ((Bt.of_below hbw).mono hs1))
          replace hs1 : w.heap.size ≤ (wn.alloc (Obj.cells #[.string ⟨#[122, 111, 110, 101]⟩, .string ⟨#[99, 111, 108, 111, 114]⟩, .string ⟨#[115, 115, 100]⟩] 9)).heap.size := by have := hbw.size; omega
          replace HR := Hid.intro (HR.out.below hbw HR.out.lt)
          clear hbw
          refine hKK.out _ _ HC.out (fun hS => ?_)
          clear hKK KK hS
          generalize wn.heap.size = gA at *
          generalize wn.alloc (Obj.cells #[.string ⟨#[122, 111, 110, 101]⟩, .string ⟨#[99, 111, 108, 111, 114]⟩, .string ⟨#[115, 115, 100]⟩] 9) = wn at *
          refine wpAnyH_mono (S' := fun wy => Blk gA #[.string ⟨#[122, 111, 110, 101]⟩, .string ⟨#[99, 111, 108, 111, 114]⟩, .string ⟨#[115, 115, 100]⟩] 9 wy ∧ Blk gB #[.string ⟨#[101, 97, 115, 116]⟩, .string ⟨#[119, 101, 115, 116]⟩, .string ⟨#[114, 101, 100]⟩, .string ⟨#[97]⟩] 9 wy) (fun _ h => h.2) _ _ _ _ ?_
          have hS : (fun wy => Blk gA #[.string ⟨#[122, 111, 110, 101]⟩, .string ⟨#[99, 111, 108, 111, 114]⟩, .string ⟨#[115, 115, 100]⟩] 9 wy ∧ Blk gB #[.string ⟨#[101, 97, 115, 116]⟩, .string ⟨#[119, 101, 115, 116]⟩, .string ⟨#[114, 101, 100]⟩, .string ⟨#[97]⟩] 9 wy) wn := ⟨HA.out, HC.out⟩
          obtain ⟨s1, hd1, hz1⟩ := tabS [⟨#[122, 111, 110, 101]⟩, ⟨#[99, 111, 108, 111, 114]⟩, ⟨#[115, 115, 100]⟩] u1 (by simp; omega) (by decide)
          refine wpAnyH_take (i := 3) (oi := { dst := some 13, op := _, type := _, pos := _, after := _, guard := none }) (v := .pointer (some ⟨gA, u1, none⟩)) rfl (by kernel_rfl) (by kernel_rfl) (by kernel_rfl) (fun _ _ _ h => h) (Or.inl ⟨by rfl, ?_⟩) hS ?_
          · intro wy hy
            clear hy
            first | (go_simp; done) | (go_simp; omega) | (go_simp; intro hh; omega)
          simp only [Act.put, List.setIfInBounds_toArray, List.set_cons_zero, List.set_cons_succ]
          refine wpAnyH_take (i := 4) (oi := { dst := some 14, op := _, type := _, pos := _, after := _, guard := none }) (v := .string s1) rfl (by kernel_rfl) (by kernel_rfl) (by kernel_rfl) (fun _ _ _ h => h) (Or.inl ⟨by rfl, ?_⟩) hS ?_
          · intro wy hy
            have h0 := (hy.1).cell (o := u1) (v := .string s1) hd1
            clear hy
            go_simp
          simp only [Act.put, List.setIfInBounds_toArray, List.set_cons_zero, List.set_cons_succ]
          refine wpAnyH_ready (rs := [7]) (by kernel_rfl) (by simp) (AllReadyH.cons (o := { dst := some 17, op := _, type := _, pos := _, after := _, guard := none }) rfl (fun KK hKK => ?_) AllReadyH.nil)
          go_simp
          refine (pickL p (n + 2) 4 _ HR.out (by omega) (by omega) (by omega)).mono ?_
          rintro e wn ⟨u2, rfl, hu2, hr, hb⟩
          replace HA := Hid.intro (HA.out.bt hb HA.out.lt (by omega))
          replace HC := Hid.intro (HC.out.bt hb HC.out.lt (by omega))
          replace HB := Hid.intro (HB.out.trans (hb.mono hs1))
          replace hs1 : w.heap.size ≤ wn.heap.size := by have := hb.size; omega
          replace HR := Hid.intro hr
          refine hKK.out _ _ ⟨HA.out, HC.out⟩ (fun hS => ?_)
          clear hKK KK hb hr
          obtain ⟨s2, hd2, hz2⟩ := tabS [⟨#[101, 97, 115, 116]⟩, ⟨#[119, 101, 115, 116]⟩, ⟨#[114, 101, 100]⟩, ⟨#[97]⟩] u2 (by simp; omega) (by decide)
          refine wpAnyH_take (i := 8) (oi := { dst := some 18, op := _, type := _, pos := _, after := _, guard := none }) (v := .pointer (some ⟨gB, u2, none⟩)) rfl (by kernel_rfl) (by kernel_rfl) (by kernel_rfl) (fun _ _ _ h => h) (Or.inl ⟨by rfl, ?_⟩) hS ?_
          · intro wy hy
            clear hy
            first | (go_simp; done) | (go_simp; omega) | (go_simp; intro hh; omega)
          simp only [Act.put, List.setIfInBounds_toArray, List.set_cons_zero, List.set_cons_succ]
          refine wpAnyH_take (i := 9) (oi := { dst := some 19, op := _, type := _, pos := _, after := _, guard := none }) (v := .string s2) rfl (by kernel_rfl) (by kernel_rfl) (by kernel_rfl) (fun _ _ _ h => h) (Or.inl ⟨by rfl, ?_⟩) hS ?_
          · intro wy hy
            have h0 := (hy.2).cell (o := u2) (v := .string s2) hd2
            clear hy
            go_simp
          simp only [Act.put, List.setIfInBounds_toArray, List.set_cons_zero, List.set_cons_succ]
          refine wpAnyH_take (i := 10) (oi := { dst := some 20, op := _, type := _, pos := _, after := _, guard := none }) (v := .agg #[.int .i64 2, .string s1, .string s2, .int .i64 0]) rfl (by kernel_rfl) (by kernel_rfl) (by kernel_rfl) (fun _ _ _ h => h) (Or.inl ⟨by rfl, ?_⟩) hS ?_
          · intro wy hy
            clear hy
            go_simp
          simp only [Act.put, List.setIfInBounds_toArray, List.set_cons_zero, List.set_cons_succ]
          have HN := Hid.intro (node_row wn ⟨2, s1, s2, 0⟩ 36 w.heap.size hs1)
          have hba : Below wn.heap.size wn (wn.alloc (.cells #[.int .i64 2, .string s1, .string s2, .int .i64 0] 36)) := (Below.refl _ _).alloc (Nat.le_refl _) _
          refine wpAnyH_ready (rs := [11]) (by kernel_rfl) (by simp) (AllReadyH.cons (o := { dst := some 21, op := _, type := _, pos := _, after := _, guard := none }) rfl (fun KK hKK => ?_) AllReadyH.nil)
          go_simp
          refine hKK.out _ _ ⟨HA.out.below hba HA.out.lt, HC.out.below hba HC.out.lt⟩ (fun hS => ?_)
          clear hKK KK
          refine wpAnyH_take (i := 12) (oi := { dst := some 2, op := _, type := _, pos := _, after := _, guard := none }) (v := .slice (some ⟨wn.heap.size, 0, none⟩) 1 1) rfl (by kernel_rfl) (by kernel_rfl) (by kernel_rfl) (fun _ _ _ h => h) (Or.inl ⟨by rfl, ?_⟩) hS ?_
          · intro wy hy
            clear hy
            go_simp
          simp only [Act.put, List.setIfInBounds_toArray, List.set_cons_zero, List.set_cons_succ]
          refine wpAnyH_done (by kernel_rfl) ?_ _
          clear hS
          go_wp2_with fail
          go_ret
          exact ⟨_, rfl, [⟨2, s1, s2, 0⟩], HN.out, by simp, by simp, Sh.one hz1 hz2, (HR.out.below hba HR.out.lt).mono (by omega), HB.out.trans ((Bt.of_below hba).mono hs1)⟩
        · skip
          go_simp
          refine (pickL p (n + 2) 4 _ HR.out (by omega) (by omega) (by omega)).mono ?_
          rintro e wn ⟨u2, rfl, hu2, hr, hb⟩
          replace HC := Hid.intro (HC.out.bt hb HC.out.lt (by omega))
          replace HB := Hid.intro (HB.out.trans (hb.mono hs1))
          replace hs1 : w.heap.size ≤ wn.heap.size := by have := hb.size; omega
          replace HR := Hid.intro hr
          refine hKK.out _ _ HC.out (fun hS => ?_)
          clear hKK KK hb hr
          obtain ⟨s2, hd2, hz2⟩ := tabS [⟨#[101, 97, 115, 116]⟩, ⟨#[119, 101, 115, 116]⟩, ⟨#[114, 101, 100]⟩, ⟨#[97]⟩] u2 (by simp; omega) (by decide)
          refine wpAnyH_take (i := 8) (oi := { dst := some 18, op := _, type := _, pos := _, after := _, guard := none }) (v := .pointer (some ⟨gB, u2, none⟩)) rfl (by kernel_rfl) (by kernel_rfl) (by kernel_rfl) (fun _ _ _ h => h) (Or.inl ⟨by rfl, ?_⟩) hS ?_
          · intro wy hy
            clear hy
            first | (go_simp; done) | (go_simp; omega) | (go_simp; intro hh; omega)
          simp only [Act.put, List.setIfInBounds_toArray, List.set_cons_zero, List.set_cons_succ]
          refine wpAnyH_take (i := 9) (oi := { dst := some 19, op := _, type := _, pos := _, after := _, guard := none }) (v := .string s2) rfl (by kernel_rfl) (by kernel_rfl) (by kernel_rfl) (fun _ _ _ h => h) (Or.inl ⟨by rfl, ?_⟩) hS ?_
          · intro wy hy
            have h0 := (hy).cell (o := u2) (v := .string s2) hd2
            clear hy
            go_simp
          simp only [Act.put, List.setIfInBounds_toArray, List.set_cons_zero, List.set_cons_succ]
          refine wpAnyH_ready (rs := [0]) (by kernel_rfl) (by simp) (AllReadyH.cons (o := { dst := some 10, op := _, type := _, pos := _, after := _, guard := none }) rfl (fun KK hKK => ?_) AllReadyH.nil)
          go_simp
          have HA : Hid (Blk wn.heap.size #[.string ⟨#[122, 111, 110, 101]⟩, .string ⟨#[99, 111, 108, 111, 114]⟩, .string ⟨#[115, 115, 100]⟩] 9 (wn.alloc (Obj.cells #[.string ⟨#[122, 111, 110, 101]⟩, .string ⟨#[99, 111, 108, 111, 114]⟩, .string ⟨#[115, 115, 100]⟩] 9))) := Blk.alloc _ _ _
          have hbw : Below wn.heap.size wn (wn.alloc (Obj.cells #[.string ⟨#[122, 111, 110, 101]⟩, .string ⟨#[99, 111, 108, 111, 114]⟩, .string ⟨#[115, 115, 100]⟩] 9)) := (Below.refl _ _).alloc (Nat.le_refl _) _
          replace HC := Hid.intro (HC.out.below hbw HC.out.lt)
          have hgA : w.heap.size ≤ wn.heap.size := hs1
          replace HB := Hid.intro (HB.out.trans ((Bt.of_below hbw).mono hs1))
          replace hs1 : w.heap.size ≤ (wn.alloc (Obj.cells #[.string ⟨#[122, 111, 110, 101]⟩, .string ⟨#[99, 111, 108, 111, 114]⟩, .string ⟨#[115, 115, 100]⟩] 9)).heap.size := by have := hbw.size; omega
          replace HR := Hid.intro (HR.out.below hbw HR.out.lt)
          clear hbw
          refine hKK.out _ _ HC.out (fun hS => ?_)
          clear hKK KK hS
          generalize wn.heap.size = gA at *
          generalize wn.alloc (Obj.cells #[.string ⟨#[122, 111, 110, 101]⟩, .string ⟨#[99, 111, 108, 111, 114]⟩, .string ⟨#[115, 115, 100]⟩] 9) = wn at *
          refine wpAnyH_mono (S' := fun wy => Blk gA #[.string ⟨#[122, 111, 110, 101]⟩, .string ⟨#[99, 111, 108, 111, 114]⟩, .string ⟨#[115, 115, 100]⟩] 9 wy ∧ Blk gB #[.string ⟨#[101, 97, 115, 116]⟩, .string ⟨#[119, 101, 115, 116]⟩, .string ⟨#[114, 101, 100]⟩, .string ⟨#[97]⟩] 9 wy) (fun _ h => h.2) _ _ _ _ ?_
          have hS : (fun wy => Blk gA #[.string ⟨#[122, 111, 110, 101]⟩, .string ⟨#[99, 111, 108, 111, 114]⟩, .string ⟨#[115, 115, 100]⟩] 9 wy ∧ Blk gB #[.string ⟨#[101, 97, 115, 116]⟩, .string ⟨#[119, 101, 115, 116]⟩, .string ⟨#[114, 101, 100]⟩, .string ⟨#[97]⟩] 9 wy) wn := ⟨HA.out, HC.out⟩
          obtain ⟨s1, hd1, hz1⟩ := tabS [⟨#[122, 111, 110, 101]⟩, ⟨#[99, 111, 108, 111, 114]⟩, ⟨#[115, 115, 100]⟩] u1 (by simp; omega) (by decide)
          refine wpAnyH_take (i := 3) (oi := { dst := some 13, op := _, type := _, pos := _, after := _, guard := none }) (v := .pointer (some ⟨gA, u1, none⟩)) rfl (by kernel_rfl) (by kernel_rfl) (by kernel_rfl) (fun _ _ _ h => h) (Or.inl ⟨by rfl, ?_⟩) hS ?_
          · intro wy hy
            clear hy
            first | (go_simp; done) | (go_simp; omega) | (go_simp; intro hh; omega)
          simp only [Act.put, List.setIfInBounds_toArray, List.set_cons_zero, List.set_cons_succ]
          refine wpAnyH_take (i := 4) (oi := { dst := some 14, op := _, type := _, pos := _, after := _, guard := none }) (v := .string s1) rfl (by kernel_rfl) (by kernel_rfl) (by kernel_rfl) (fun _ _ _ h => h) (Or.inl ⟨by rfl, ?_⟩) hS ?_
          · intro wy hy
            have h0 := (hy.1).cell (o := u1) (v := .string s1) hd1
            clear hy
            go_simp
          simp only [Act.put, List.setIfInBounds_toArray, List.set_cons_zero, List.set_cons_succ]
          refine wpAnyH_take (i := 10) (oi := { dst := some 20, op := _, type := _, pos := _, after := _, guard := none }) (v := .agg #[.int .i64 2, .string s1, .string s2, .int .i64 0]) rfl (by kernel_rfl) (by kernel_rfl) (by kernel_rfl) (fun _ _ _ h => h) (Or.inl ⟨by rfl, ?_⟩) hS ?_
          · intro wy hy
            clear hy
            go_simp
          simp only [Act.put, List.setIfInBounds_toArray, List.set_cons_zero, List.set_cons_succ]
          have HN := Hid.intro (node_row wn ⟨2, s1, s2, 0⟩ 36 w.heap.size hs1)
          have hba : Below wn.heap.size wn (wn.alloc (.cells #[.int .i64 2, .string s1, .string s2, .int .i64 0] 36)) := (Below.refl _ _).alloc (Nat.le_refl _) _
          refine wpAnyH_ready (rs := [11]) (by kernel_rfl) (by simp) (AllReadyH.cons (o := { dst := some 21, op := _, type := _, pos := _, after := _, guard := none }) rfl (fun KK hKK => ?_) AllReadyH.nil)
          go_simp
          refine hKK.out _ _ ⟨HA.out.below hba HA.out.lt, HC.out.below hba HC.out.lt⟩ (fun hS => ?_)
          clear hKK KK
          refine wpAnyH_take (i := 12) (oi := { dst := some 2, op := _, type := _, pos := _, after := _, guard := none }) (v := .slice (some ⟨wn.heap.size, 0, none⟩) 1 1) rfl (by kernel_rfl) (by kernel_rfl) (by kernel_rfl) (fun _ _ _ h => h) (Or.inl ⟨by rfl, ?_⟩) hS ?_
          · intro wy hy
            clear hy
            go_simp
          simp only [Act.put, List.setIfInBounds_toArray, List.set_cons_zero, List.set_cons_succ]
          refine wpAnyH_done (by kernel_rfl) ?_ _
          clear hS
          go_wp2_with fail
          go_ret
          exact ⟨_, rfl, [⟨2, s1, s2, 0⟩], HN.out, by simp, by simp, Sh.one hz1 hz2, (HR.out.below hba HR.out.lt).mono (by omega), HB.out.trans ((Bt.of_below hba).mono hs1)⟩
      · skip
        go_simp
        refine (pickL p (n + 2) 4 _ HR.out (by omega) (by omega) (by omega)).mono ?_
        rintro e wn ⟨u2, rfl, hu2, hr, hb⟩
        replace HB := Hid.intro (HB.out.trans (hb.mono hs1))
        replace hs1 : w.heap.size ≤ wn.heap.size := by have := hb.size; omega
        replace HR := Hid.intro hr
        refine hKK.out _ _ trivial (fun hS => ?_)
        clear hKK KK hb hr
        refine wpAnyH_ready (rs := [0, 5]) (by kernel_rfl) (by simp) (AllReadyH.cons (o := { dst := some 10, op := _, type := _, pos := _, after := _, guard := none }) rfl (fun KK hKK => ?_) (AllReadyH.cons (o := { dst := some 15, op := _, type := _, pos := _, after := _, guard := none }) rfl (fun KK hKK => ?_) AllReadyH.nil))
        · skip
          go_simp
          have HA : Hid (Blk wn.heap.size #[.string ⟨#[122, 111, 110, 101]⟩, .string ⟨#[99, 111, 108, 111, 114]⟩, .string ⟨#[115, 115, 100]⟩] 9 (wn.alloc (Obj.cells #[.string ⟨#[122, 111, 110, 101]⟩, .string ⟨#[99, 111, 108, 111, 114]⟩, .string ⟨#[115, 115, 100]⟩] 9))) := Blk.alloc _ _ _
          have hbw : Below wn.heap.size wn (wn.alloc (Obj.cells #[.string ⟨#[122, 111, 110, 101]⟩, .string ⟨#[99, 111, 108, 111, 114]⟩, .string ⟨#[115, 115, 100]⟩] 9)) := (Below.refl _ _).alloc (Nat.le_refl _) _
          have hgA : w.heap.size ≤ wn.heap.size := hs1
          replace HB := Hid.intro (HB.out.trans ((Bt.of_below hbw).mono hs1))
          replace hs1 : w.heap.size ≤ (wn.alloc (Obj.cells #[.string ⟨#[122, 111, 110, 101]⟩, .string ⟨#[99, 111, 108, 111, 114]⟩, .string ⟨#[115, 115, 100]⟩] 9)).heap.size := by have := hbw.size; omega
          replace HR := Hid.intro (HR.out.below hbw HR.out.lt)
          clear hbw
          refine hKK.out _ _ trivial (fun hS => ?_)
          clear hKK KK hS
          generalize wn.heap.size = gA at *
          generalize wn.alloc (Obj.cells #[.string ⟨#[122, 111, 110, 101]⟩, .string ⟨#[99, 111, 108, 111, 114]⟩, .string ⟨#[115, 115, 100]⟩] 9) = wn at *
          refine wpAnyH_mono (S' := fun wy => Blk gA #[.string ⟨#[122, 111, 110, 101]⟩, .string ⟨#[99, 111, 108, 111, 114]⟩, .string ⟨#[115, 115, 100]⟩] 9 wy) (fun _ h => trivial) _ _ _ _ ?_
          have hS : (fun wy => Blk gA #[.string ⟨#[122, 111, 110, 101]⟩, .string ⟨#[99, 111, 108, 111, 114]⟩, .string ⟨#[115, 115, 100]⟩] 9 wy) wn := HA.out
          obtain ⟨s1, hd1, hz1⟩ := tabS [⟨#[122, 111, 110, 101]⟩, ⟨#[99, 111, 108, 111, 114]⟩, ⟨#[115, 115, 100]⟩] u1 (by simp; omega) (by decide)
          refine wpAnyH_take (i := 3) (oi := { dst := some 13, op := _, type := _, pos := _, after := _, guard := none }) (v := .pointer (some ⟨gA, u1, none⟩)) rfl (by kernel_rfl) (by kernel_rfl) (by kernel_rfl) (fun _ _ _ h => h) (Or.inl ⟨by rfl, ?_⟩) hS ?_
          · intro wy hy
            clear hy
            first | (go_simp; done) | (go_simp; omega) | (go_simp; intro hh; omega)
          simp only [Act.put, List.setIfInBounds_toArray, List.set_cons_zero, List.set_cons_succ]
          refine wpAnyH_take (i := 4) (oi := { dst := some 14, op := _, type := _, pos := _, after := _, guard := none }) (v := .string s1) rfl (by kernel_rfl) (by kernel_rfl) (by kernel_rfl) (fun _ _ _ h => h) (Or.inl ⟨by rfl, ?_⟩) hS ?_
          · intro wy hy
            have h0 := (hy).cell (o := u1) (v := .string s1) hd1
            clear hy
            go_simp
          simp only [Act.put, List.setIfInBounds_toArray, List.set_cons_zero, List.set_cons_succ]
          refine wpAnyH_ready (rs := [5]) (by kernel_rfl) (by simp) (AllReadyH.cons (o := { dst := some 15, op := _, type := _, pos := _, after := _, guard := none }) rfl (fun KK hKK => ?_) AllReadyH.nil)
          go_simp
          have HC : Hid (Blk wn.heap.size #[.string ⟨#[101, 97, 115, 116]⟩, .string ⟨#[119, 101, 115, 116]⟩, .string ⟨#[114, 101, 100]⟩, .string ⟨#[97]⟩] 9 (wn.alloc (Obj.cells #[.string ⟨#[101, 97, 115, 116]⟩, .string ⟨#[119, 101, 115, 116]⟩, .string ⟨#[114, 101, 100]⟩, .string ⟨#[97]⟩] 9))) := Blk.alloc _ _ _
          have hbw : Below wn.heap.size wn (wn.alloc (Obj.cells #[.string ⟨#[101, 97, 115, 116]⟩, .string ⟨#[119, 101, 115, 116]⟩, .string ⟨#[114, 101, 100]⟩, .string ⟨#[97]⟩] 9)) := (Below.refl _ _).alloc (Nat.le_refl _) _
          replace HA := Hid.intro (HA.out.below hbw HA.out.lt)
          have hgB : w.heap.size ≤ wn.heap.size := hs1
          replace HB := Hid.intro (HB.out.trans ((Bt.of_below hbw).mono hs1))
          replace hs1 : w.heap.size ≤ (wn.alloc (Obj.cells #[.string ⟨#[101, 97, 115, 116]⟩, .string ⟨#[119, 101, 115, 116]⟩, .string ⟨#[114, 101, 100]⟩, .string ⟨#[97]⟩] 9)).heap.size := by have := hbw.size; omega
          replace HR := Hid.intro (HR.out.below hbw HR.out.lt)
          clear hbw
          refine hKK.out _ _ HA.out (fun hS => ?_)
          clear hKK KK hS
          generalize wn.heap.size = gB at *
          generalize wn.alloc (Obj.cells #[.string ⟨#[101, 97, 115, 116]⟩, .string ⟨#[119, 101, 115, 116]⟩, .string ⟨#[114, 101, 100]⟩, .string ⟨#[97]⟩] 9) = wn at *
          refine wpAnyH_mono (S' := fun wy => Blk gA #[.string ⟨#[122, 111, 110, 101]⟩, .string ⟨#[99, 111, 108, 111, 114]⟩, .string ⟨#[115, 115, 100]⟩] 9 wy ∧ Blk gB #[.string ⟨#[101, 97, 115, 116]⟩, .string ⟨#[119, 101, 115, 116]⟩, .string ⟨#[114, 101, 100]⟩, .string ⟨#[97]⟩] 9 wy) (fun _ h => h.1) _ _ _ _ ?_
          have hS : (fun wy => Blk gA #[.string ⟨#[122, 111, 110, 101]⟩, .string ⟨#[99, 111, 108, 111, 114]⟩, .string ⟨#[115, 115, 100]⟩] 9 wy ∧ Blk gB #[.string ⟨#[101, 97, 115, 116]⟩, .string ⟨#[119, 101, 115, 116]⟩, .string ⟨#[114, 101, 100]⟩, .string ⟨#[97]⟩] 9 wy) wn := ⟨HA.out, HC.out⟩
          obtain ⟨s2, hd2, hz2⟩ := tabS [⟨#[101, 97, 115, 116]⟩, ⟨#[119, 101, 115, 116]⟩, ⟨#[114, 101, 100]⟩, ⟨#[97]⟩] u2 (by simp; omega) (by decide)
          refine wpAnyH_take (i := 8) (oi := { dst := some 18, op := _, type := _, pos := _, after := _, guard := none }) (v := .pointer (some ⟨gB, u2, none⟩)) rfl (by kernel_rfl) (by kernel_rfl) (by kernel_rfl) (fun _ _ _ h => h) (Or.inl ⟨by rfl, ?_⟩) hS ?_
          · intro wy hy
            clear hy
            first | (go_simp; done) | (go_simp; omega) | (go_simp; intro hh; omega)
          simp only [Act.put, List.setIfInBounds_toArray, List.set_cons_zero, List.set_cons_succ]
          refine wpAnyH_take (i := 9) (oi := { dst := some 19, op := _, type := _, pos := _, after := _, guard := none }) (v := .string s2) rfl (by kernel_rfl) (by kernel_rfl) (by kernel_rfl) (fun _ _ _ h => h) (Or.inl ⟨by rfl, ?_⟩) hS ?_
          · intro wy hy
            have h0 := (hy.2).cell (o := u2) (v := .string s2) hd2
            clear hy
            go_simp
          simp only [Act.put, List.setIfInBounds_toArray, List.set_cons_zero, List.set_cons_succ]
          refine wpAnyH_take (i := 10) (oi := { dst := some 20, op := _, type := _, pos := _, after := _, guard := none }) (v := .agg #[.int .i64 2, .string s1, .string s2, .int .i64 0]) rfl (by kernel_rfl) (by kernel_rfl) (by kernel_rfl) (fun _ _ _ h => h) (Or.inl ⟨by rfl, ?_⟩) hS ?_
          · intro wy hy
            clear hy
            go_simp
          simp only [Act.put, List.setIfInBounds_toArray, List.set_cons_zero, List.set_cons_succ]
          have HN := Hid.intro (node_row wn ⟨2, s1, s2, 0⟩ 36 w.heap.size hs1)
          have hba : Below wn.heap.size wn (wn.alloc (.cells #[.int .i64 2, .string s1, .string s2, .int .i64 0] 36)) := (Below.refl _ _).alloc (Nat.le_refl _) _
          refine wpAnyH_ready (rs := [11]) (by kernel_rfl) (by simp) (AllReadyH.cons (o := { dst := some 21, op := _, type := _, pos := _, after := _, guard := none }) rfl (fun KK hKK => ?_) AllReadyH.nil)
          go_simp
          refine hKK.out _ _ ⟨HA.out.below hba HA.out.lt, HC.out.below hba HC.out.lt⟩ (fun hS => ?_)
          clear hKK KK
          refine wpAnyH_take (i := 12) (oi := { dst := some 2, op := _, type := _, pos := _, after := _, guard := none }) (v := .slice (some ⟨wn.heap.size, 0, none⟩) 1 1) rfl (by kernel_rfl) (by kernel_rfl) (by kernel_rfl) (fun _ _ _ h => h) (Or.inl ⟨by rfl, ?_⟩) hS ?_
          · intro wy hy
            clear hy
            go_simp
          simp only [Act.put, List.setIfInBounds_toArray, List.set_cons_zero, List.set_cons_succ]
          refine wpAnyH_done (by kernel_rfl) ?_ _
          clear hS
          go_wp2_with fail
          go_ret
          exact ⟨_, rfl, [⟨2, s1, s2, 0⟩], HN.out, by simp, by simp, Sh.one hz1 hz2, (HR.out.below hba HR.out.lt).mono (by omega), HB.out.trans ((Bt.of_below hba).mono hs1)⟩
        · skip
          go_simp
          have HC : Hid (Blk wn.heap.size #[.string ⟨#[101, 97, 115, 116]⟩, .string ⟨#[119, 101, 115, 116]⟩, .string ⟨#[114, 101, 100]⟩, .string ⟨#[97]⟩] 9 (wn.alloc (Obj.cells #[.string ⟨#[101, 97, 115, 116]⟩, .string ⟨#[119, 101, 115, 116]⟩, .string ⟨#[114, 101, 100]⟩, .string ⟨#[97]⟩] 9))) := Blk.alloc _ _ _
          have hbw : Below wn.heap.size wn (wn.alloc (Obj.cells #[.string ⟨#[101, 97, 115, 116]⟩, .string ⟨#[119, 101, 115, 116]⟩, .string ⟨#[114, 101, 100]⟩, .string ⟨#[97]⟩] 9)) := (Below.refl _ _).alloc (Nat.le_refl _) _
          have hgB : w.heap.size ≤ wn.heap.size := hs1
          replace HB := Hid.intro (HB.out.trans ((Bt.of_below hbw).mono hs1))
          replace hs1 : w.heap.size ≤ (wn.alloc (Obj.cells #[.string ⟨#[101, 97, 115, 116]⟩, .string ⟨#[119, 101, 115, 116]⟩, .string ⟨#[114, 101, 100]⟩, .string ⟨#[97]⟩] 9)).heap.size := by have := hbw.size; omega
          replace HR := Hid.intro (HR.out.below hbw HR.out.lt)
          clear hbw
          refine hKK.out _ _ trivial (fun hS => ?_)
          clear hKK KK hS
          generalize wn.heap.size = gB at *
          generalize wn.alloc (Obj.cells #[.string ⟨#[101, 97, 115, 116]⟩, .string ⟨#[119, 101, 115, 116]⟩, .string ⟨#[114, 101, 100]⟩, .string ⟨#[97]⟩] 9) = wn at *
          refine wpAnyH_mono (S' := fun wy => Blk gB #[.string ⟨#[101, 97, 115, 116]⟩, .string ⟨#[119, 101, 115, 116]⟩, .string ⟨#[114, 101, 100]⟩, .string ⟨#[97]⟩] 9 wy) (fun _ h => trivial) _ _ _ _ ?_
          have hS : (fun wy => Blk gB #[.string ⟨#[101, 97, 115, 116]⟩, .string ⟨#[119, 101, 115, 116]⟩, .string ⟨#[114, 101, 100]⟩, .string ⟨#[97]⟩] 9 wy) wn := HC.out
          obtain ⟨s2, hd2, hz2⟩ := tabS [⟨#[101, 97, 115, 116]⟩, ⟨#[119, 101, 115, 116]⟩, ⟨#[114, 101, 100]⟩, ⟨#[97]⟩] u2 (by simp; omega) (by decide)
          refine wpAnyH_take (i := 8) (oi := { dst := some 18, op := _, type := _, pos := _, after := _, guard := none }) (v := .pointer (some ⟨gB, u2, none⟩)) rfl (by kernel_rfl) (by kernel_rfl) (by kernel_rfl) (fun _ _ _ h => h) (Or.inl ⟨by rfl, ?_⟩) hS ?_
          · intro wy hy
            clear hy
            first | (go_simp; done) | (go_simp; omega) | (go_simp; intro hh; omega)
          simp only [Act.put, List.setIfInBounds_toArray, List.set_cons_zero, List.set_cons_succ]
          refine wpAnyH_take (i := 9) (oi := { dst := some 19, op := _, type := _, pos := _, after := _, guard := none }) (v := .string s2) rfl (by kernel_rfl) (by kernel_rfl) (by kernel_rfl) (fun _ _ _ h => h) (Or.inl ⟨by rfl, ?_⟩) hS ?_
          · intro wy hy
            have h0 := (hy).cell (o := u2) (v := .string s2) hd2
            clear hy
            go_simp
          simp only [Act.put, List.setIfInBounds_toArray, List.set_cons_zero, List.set_cons_succ]
          refine wpAnyH_ready (rs := [0]) (by kernel_rfl) (by simp) (AllReadyH.cons (o := { dst := some 10, op := _, type := _, pos := _, after := _, guard := none }) rfl (fun KK hKK => ?_) AllReadyH.nil)
          go_simp
          have HA : Hid (Blk wn.heap.size #[.string ⟨#[122, 111, 110, 101]⟩, .string ⟨#[99, 111, 108, 111, 114]⟩, .string ⟨#[115, 115, 100]⟩] 9 (wn.alloc (Obj.cells #[.string ⟨#[122, 111, 110, 101]⟩, .string ⟨#[99, 111, 108, 111, 114]⟩, .string ⟨#[115, 115, 100]⟩] 9))) := Blk.alloc _ _ _
          have hbw : Below wn.heap.size wn (wn.alloc (Obj.cells #[.string ⟨#[122, 111, 110, 101]⟩, .string ⟨#[99, 111, 108, 111, 114]⟩, .string ⟨#[115, 115, 100]⟩] 9)) := (Below.refl _ _).alloc (Nat.le_refl _) _
          replace HC := Hid.intro (HC.out.below hbw HC.out.lt)
          have hgA : w.heap.size ≤ wn.heap.size := hs1
          replace HB := Hid.intro (HB.out.trans ((Bt.of_below hbw).mono hs1))
          replace hs1 : w.heap.size ≤ (wn.alloc (Obj.cells #[.string ⟨#[122, 111, 110, 101]⟩, .string ⟨#[99, 111, 108, 111, 114]⟩, .string ⟨#[115, 115, 100]⟩] 9)).heap.size := by have := hbw.size; omega
          replace HR := Hid.intro (HR.out.below hbw HR.out.lt)
          clear hbw
          refine hKK.out _ _ HC.out (fun hS => ?_)
          clear hKK KK hS
          generalize wn.heap.size = gA at *
          generalize wn.alloc (Obj.cells #[.string ⟨#[122, 111, 110, 101]⟩, .string ⟨#[99, 111, 108, 111, 114]⟩, .string ⟨#[115, 115, 100]⟩] 9) = wn at *
          refine wpAnyH_mono (S' := fun wy => Blk gA #[.string ⟨#[122, 111, 110, 101]⟩, .string ⟨#[99, 111, 108, 111, 114]⟩, .string ⟨#[115, 115, 100]⟩] 9 wy ∧ Blk gB #[.string ⟨#[101, 97, 115, 116]⟩, .string ⟨#[119, 101, 115, 116]⟩, .string ⟨#[114, 101, 100]⟩, .string ⟨#[97]⟩] 9 wy) (fun _ h => h.2) _ _ _ _ ?_
          have hS : (fun wy => Blk gA #[.string ⟨#[122, 111, 110, 101]⟩, .string ⟨#[99, 111, 108, 111, 114]⟩, .string ⟨#[115, 115, 100]⟩] 9 wy ∧ Blk gB #[.string ⟨#[101, 97, 115, 116]⟩, .string ⟨#[119, 101, 115, 116]⟩, .string ⟨#[114, 101, 100]⟩, .string ⟨#[97]⟩] 9 wy) wn := ⟨HA.out, HC.out⟩
          obtain ⟨s1, hd1, hz1⟩ := tabS [⟨#[122, 111, 110, 101]⟩, ⟨#[99, 111, 108, 111, 114]⟩, ⟨#[115, 115, 100]⟩] u1 (by simp; omega) (by decide)
          refine wpAnyH_take (i := 3) (oi := { dst := some 13, op := _, type := _, pos := _, after := _, guard := none }) (v := .pointer (some ⟨gA, u1, none⟩)) rfl (by kernel_rfl) (by kernel_rfl) (by kernel_rfl) (fun _ _ _ h => h) (Or.inl ⟨by rfl, ?_⟩) hS ?_
          · intro wy hy
            clear hy
            first | (go_simp; done) | (go_simp; omega) | (go_simp; intro hh; omega)
          simp only [Act.put, List.setIfInBounds_toArray, List.set_cons_zero, List.set_cons_succ]
          refine wpAnyH_take (i := 4) (oi := { dst := some 14, op := _, type := _, pos := _, after := _, guard := none }) (v := .string s1) rfl (by kernel_rfl) (by kernel_rfl) (by kernel_rfl) (fun _ _ _ h => h) (Or.inl ⟨by rfl, ?_⟩) hS ?_
          · intro wy hy
            have h0 := (hy.1).cell (o := u1) (v := .string s1) hd1
            clear hy
            go_simp
          simp only [Act.put, List.setIfInBounds_toArray, List.set_cons_zero, List.set_cons_succ]
          refine wpAnyH_take (i := 10) (oi := { dst := some 20, op := _, type := _, pos := _, after := _, guard := none }) (v := .agg #[.int .i64 2, .string s1, .string s2, .int .i64 0]) rfl (by kernel_rfl) (by kernel_rfl) (by kernel_rfl) (fun _ _ _ h => h) (Or.inl ⟨by rfl, ?_⟩) hS ?_
          · intro wy hy
            clear hy
            go_simp
          simp only [Act.put, List.setIfInBounds_toArray, List.set_cons_zero, List.set_cons_succ]
          have HN := Hid.intro (node_row wn ⟨2, s1, s2, 0⟩ 36 w.heap.size hs1)
          have hba : Below wn.heap.size wn (wn.alloc (.cells #[.int .i64 2, .string s1, .string s2, .int .i64 0] 36)) := (Below.refl _ _).alloc (Nat.le_refl _) _
          refine wpAnyH_ready (rs := [11]) (by kernel_rfl) (by simp) (AllReadyH.cons (o := { dst := some 21, op := _, type := _, pos := _, after := _, guard := none }) rfl (fun KK hKK => ?_) AllReadyH.nil)
          go_simp
          refine hKK.out _ _ ⟨HA.out.below hba HA.out.lt, HC.out.below hba HC.out.lt⟩ (fun hS => ?_)
          clear hKK KK
          refine wpAnyH_take (i := 12) (oi := { dst := some 2, op := _, type := _, pos := _, after := _, guard := none }) (v := .slice (some ⟨wn.heap.size, 0, none⟩) 1 1) rfl (by kernel_rfl) (by kernel_rfl) (by kernel_rfl) (fun _ _ _ h => h) (Or.inl ⟨by rfl, ?_⟩) hS ?_
          · intro wy hy
            clear hy
            go_simp
          simp only [Act.put, List.setIfInBounds_toArray, List.set_cons_zero, List.set_cons_succ]
          refine wpAnyH_done (by kernel_rfl) ?_ _
          clear hS
          go_wp2_with fail
          go_ret
          exact ⟨_, rfl, [⟨2, s1, s2, 0⟩], HN.out, by simp, by simp, Sh.one hz1 hz2, (HR.out.below hba HR.out.lt).mono (by omega), HB.out.trans ((Bt.of_below hba).mono hs1)⟩
    · skip
      go_simp
      have HC : Hid (Blk wn.heap.size #[.string ⟨#[101, 97, 115, 116]⟩, .string ⟨#[119, 101, 115, 116]⟩, .string ⟨#[114, 101, 100]⟩, .string ⟨#[97]⟩] 9 (wn.alloc (Obj.cells #[.string ⟨#[101, 97, 115, 116]⟩, .string ⟨#[119, 101, 115, 116]⟩, .string ⟨#[114, 101, 100]⟩, .string ⟨#[97]⟩] 9))) := Blk.alloc _ _ _
      have hbw : Below wn.heap.size wn (wn.alloc (Obj.cells #[.string ⟨#[101, 97, 115, 116]⟩, .string ⟨#[119, 101, 115, 116]⟩, .string ⟨#[114, 101, 100]⟩, .string ⟨#[97]⟩] 9)) := (Below.refl _ _).alloc (Nat.le_refl _) _
      have hgB : w.heap.size ≤ wn.heap.size := hs1
      replace HB := Hid.intro (HB.out.trans ((Bt.of_below hbw).mono hs1))
      replace hs1 : w.heap.size ≤ (wn.alloc (Obj.cells #[.string ⟨#[101, 97, 115, 116]⟩, .string ⟨#[119, 101, 115, 116]⟩, .string ⟨#[114, 101, 100]⟩, .string ⟨#[97]⟩] 9)).heap.size := by have := hbw.size; omega
      replace HR := Hid.intro (HR.out.below hbw HR.out.lt)
      clear hbw
      refine hKK.out _ _ trivial (fun hS => ?_)
      clear hKK KK hS
      generalize wn.heap.size = gB at *
      generalize wn.alloc (Obj.cells #[.string ⟨#[101, 97, 115, 116]⟩, .string ⟨#[119, 101, 115, 116]⟩, .string ⟨#[114, 101, 100]⟩, .string ⟨#[97]⟩] 9) = wn at *
      refine wpAnyH_mono (S' := fun wy => Blk gB #[.string ⟨#[101, 97, 115, 116]⟩, .string ⟨#[119, 101, 115, 116]⟩, .string ⟨#[114, 101, 100]⟩, .string ⟨#[97]⟩] 9 wy) (fun _ h => trivial) _ _ _ _ ?_
      have hS : (fun wy => Blk gB #[.string ⟨#[101, 97, 115, 116]⟩, .string ⟨#[119, 101, 115, 116]⟩, .string ⟨#[114, 101, 100]⟩, .string ⟨#[97]⟩] 9 wy) wn := HC.out
      refine wpAnyH_ready (rs := [0, 2]) (by kernel_rfl) (by simp) (AllReadyH.cons (o := { dst := some 10, op := _, type := _, pos := _, after := _, guard := none }) rfl (fun KK hKK => ?_) (AllReadyH.cons (o := { dst := some 12, op := _, type := _, pos := _, after := _, guard := none }) rfl (fun KK hKK => ?_) AllReadyH.nil))
      · skip
        go_simp
        have HA : Hid (Blk wn.heap.size #[.string ⟨#[122, 111, 110, 101]⟩, .string ⟨#[99, 111, 108, 111, 114]⟩, .string ⟨#[115, 115, 100]⟩] 9 (wn.alloc (Obj.cells #[.string ⟨#[122, 111, 110, 101]⟩, .string ⟨#[99, 111, 108, 111, 114]⟩, .string ⟨#[115, 115, 100]⟩] 9))) := Blk.alloc _ _ _
        have hbw : Below wn.heap.size wn (wn.alloc (Obj.cells #[.string ⟨#[122, 111, 110, 101]⟩, .string ⟨#[99, 111, 108, 111, 114]⟩, .string ⟨#[115, 115, 100]⟩] 9)) := (Below.refl _ _).alloc (Nat.le_refl _) _
        replace HC := Hid.intro (HC.out.below hbw HC.out.lt)
        have hgA : w.heap.size ≤ wn.heap.size := hs1
        replace HB := Hid.intro (HB.out.trans ((Bt.of_below hbw).mono hs1))
        replace hs1 : w.heap.size ≤ (wn.alloc (Obj.cells #[.string ⟨#[122, 111, 110, 101]⟩, .string ⟨#[99, 111, 108, 111, 114]⟩, .string ⟨#[115, 115, 100]⟩] 9)).heap.size := by have := hbw.size; omega
        replace HR := Hid.intro (HR.out.below hbw HR.out.lt)
        clear hbw
        refine hKK.out _ _ HC.out (fun hS => ?_)
        clear hKK KK hS
        generalize wn.heap.size = gA at *
        generalize wn.alloc (Obj.cells #[.string ⟨#[122, 111, 110, 101]⟩, .string ⟨#[99, 111, 108, 111, 114]⟩, .string ⟨#[115, 115, 100]⟩] 9) = wn at *
        refine wpAnyH_mono (S' := fun wy => Blk gA #[.string ⟨#[122, 111, 110, 101]⟩, .string ⟨#[99, 111, 108, 111, 114]⟩, .string ⟨#[115, 115, 100]⟩] 9 wy ∧ Blk gB #[.string ⟨#[101, 97, 115, 116]⟩, .string ⟨#[119, 101, 115, 116]⟩, .string ⟨#[114, 101, 100]⟩, .string ⟨#[97]⟩] 9 wy) (fun _ h => h.2) _ _ _ _ ?_
        have hS : (fun wy => Blk gA #[.string ⟨#[122, 111, 110, 101]⟩, .string ⟨#[99, 111, 108, 111, 114]⟩, .string ⟨#[115, 115, 100]⟩] 9 wy ∧ Blk gB #[.string ⟨#[101, 97, 115, 116]⟩, .string ⟨#[119, 101, 115, 116]⟩, .string ⟨#[114, 101, 100]⟩, .string ⟨#[97]⟩] 9 wy) wn := ⟨HA.out, HC.out⟩
        refine wpAnyH_ready (rs := [2]) (by kernel_rfl) (by simp) (AllReadyH.cons (o := { dst := some 12, op := _, type := _, pos := _, after := _, guard := none }) rfl (fun KK hKK => ?_) AllReadyH.nil)
        go_simp
        refine (pickL p (n + 1) 3 _ HR.out (by omega) (by omega) (by omega)).mono ?_
        rintro e wn ⟨u1, rfl, hu1, hr, hb⟩
        replace HA := Hid.intro (HA.out.bt hb HA.out.lt (by omega))
        replace HC := Hid.intro (HC.out.bt hb HC.out.lt (by omega))
        replace HB := Hid.intro (HB.out.trans (hb.mono hs1))
        replace hs1 : w.heap.size ≤ wn.heap.size := by have := hb.size; omega
        replace HR := Hid.intro hr
        refine hKK.out _ _ ⟨HA.out, HC.out⟩ (fun hS => ?_)
        clear hKK KK hb hr
        obtain ⟨s1, hd1, hz1⟩ := tabS [⟨#[122, 111, 110, 101]⟩, ⟨#[99, 111, 108, 111, 114]⟩, ⟨#[115, 115, 100]⟩] u1 (by simp; omega) (by decide)
        refine wpAnyH_take (i := 3) (oi := { dst := some 13, op := _, type := _, pos := _, after := _, guard := none }) (v := .pointer (some ⟨gA, u1, none⟩)) rfl (by kernel_rfl) (by kernel_rfl) (by kernel_rfl) (fun _ _ _ h => h) (Or.inl ⟨by rfl, ?_⟩) hS ?_
        · intro wy hy
          clear hy
          first | (go_simp; done) | (go_simp; omega) | (go_simp; intro hh; omega)
        simp only [Act.put, List.setIfInBounds_toArray, List.set_cons_zero, List.set_cons_succ]
        refine wpAnyH_take (i := 4) (oi := { dst := some 14, op := _, type := _, pos := _, after := _, guard := none }) (v := .string s1) rfl (by kernel_rfl) (by kernel_rfl) (by kernel_rfl) (fun _ _ _ h => h) (Or.inl ⟨by rfl, ?_⟩) hS ?_
        · intro wy hy
          have h0 := (hy.1).cell (o := u1) (v := .string s1) hd1
          clear hy
          go_simp
        simp only [Act.put, List.setIfInBounds_toArray, List.set_cons_zero, List.set_cons_succ]
        refine wpAnyH_ready (rs := [7]) (by kernel_rfl) (by simp) (AllReadyH.cons (o := { dst := some 17, op := _, type := _, pos := _, after := _, guard := none }) rfl (fun KK hKK => ?_) AllReadyH.nil)
        go_simp
        refine (pickL p (n + 2) 4 _ HR.out (by omega) (by omega) (by omega)).mono ?_
        rintro e wn ⟨u2, rfl, hu2, hr, hb⟩
        replace HA := Hid.intro (HA.out.bt hb HA.out.lt (by omega))
        replace HC := Hid.intro (HC.out.bt hb HC.out.lt (by omega))
        replace HB := Hid.intro (HB.out.trans (hb.mono hs1))
        replace hs1 : w.heap.size ≤ wn.heap.size := by have := hb.size; omega
        replace HR := Hid.intro hr
        refine hKK.out _ _ ⟨HA.out, HC.out⟩ (fun hS => ?_)
        clear hKK KK hb hr
        obtain ⟨s2, hd2, hz2⟩ := tabS [⟨#[101, 97, 115, 116]⟩, ⟨#[119, 101, 115, 116]⟩, ⟨#[114, 101, 100]⟩, ⟨#[97]⟩] u2 (by simp; omega) (by decide)
        refine wpAnyH_take (i := 8) (oi := { dst := some 18, op := _, type := _, pos := _, after := _, guard := none }) (v := .pointer (some ⟨gB, u2, none⟩)) rfl (by kernel_rfl) (by kernel_rfl) (by kernel_rfl) (fun _ _ _ h => h) (Or.inl ⟨by rfl, ?_⟩) hS ?_
        · intro wy hy
          clear hy
          first | (go_simp; done) | (go_simp; omega) | (go_simp; intro hh; omega)
        simp only [Act.put, List.setIfInBounds_toArray, List.set_cons_zero, List.set_cons_succ]
        refine wpAnyH_take (i := 9) (oi := { dst := some 19, op := _, type := _, pos := _, after := _, guard := none }) (v := .string s2) rfl (by kernel_rfl) (by kernel_rfl) (by kernel_rfl) (fun _ _ _ h => h) (Or.inl ⟨by rfl, ?_⟩) hS ?_
        · intro wy hy
          have h0 := (hy.2).cell (o := u2) (v := .string s2) hd2
          clear hy
          go_simp
        simp only [Act.put, List.setIfInBounds_toArray, List.set_cons_zero, List.set_cons_succ]
        refine wpAnyH_take (i := 10) (oi := { dst := some 20, op := _, type := _, pos := _, after := _, guard := none }) (v := .agg #[.int .i64 2, .string s1, .string s2, .int .i64 0]) rfl (by kernel_rfl) (by kernel_rfl) (by kernel_rfl) (fun _ _ _ h => h) (Or.inl ⟨by rfl, ?_⟩) hS ?_
        · intro wy hy
          clear hy
          go_simp
        simp only [Act.put, List.setIfInBounds_toArray, List.set_cons_zero, List.set_cons_succ]
        have HN := Hid.intro (node_row wn ⟨2, s1, s2, 0⟩ 36 w.heap.size hs1)
        have hba : Below wn.heap.size wn (wn.alloc (.cells #[.int .i64 2, .string s1, .string s2, .int .i64 0] 36)) := (Below.refl _ _).alloc (Nat.le_refl _) _
        refine wpAnyH_ready (rs := [11]) (by kernel_rfl) (by simp) (AllReadyH.cons (o := { dst := some 21, op := _, type := _, pos := _, after := _, guard := none }) rfl (fun KK hKK => ?_) AllReadyH.nil)
        go_simp
        refine hKK.out _ _ ⟨HA.out.below hba HA.out.lt, HC.out.below hba HC.out.lt⟩ (fun hS => ?_)
        clear hKK KK
        refine wpAnyH_take (i := 12) (oi := { dst := some 2, op := _, type := _, pos := _, after := _, guard := none }) (v := .slice (some ⟨wn.heap.size, 0, none⟩) 1 1) rfl (by kernel_rfl) (by kernel_rfl) (by kernel_rfl) (fun _ _ _ h => h) (Or.inl ⟨by rfl, ?_⟩) hS ?_
        · intro wy hy
          clear hy
          go_simp
        simp only [Act.put, List.setIfInBounds_toArray, List.set_cons_zero, List.set_cons_succ]
        refine wpAnyH_done (by kernel_rfl) ?_ _
        clear hS
        go_wp2_with fail
        go_ret
        exact ⟨_, rfl, [⟨2, s1, s2, 0⟩], HN.out, by simp, by simp, Sh.one hz1 hz2, (HR.out.below hba HR.out.lt).mono (by omega), HB.out.trans ((Bt.of_below hba).mono hs1)⟩
      · skip
        go_simp
        refine (pickL p (n + 1) 3 _ HR.out (by omega) (by omega) (by omega)).mono ?_
        rintro e wn ⟨u1, rfl, hu1, hr, hb⟩
        replace HC := Hid.intro (HC.out.bt hb HC.out.lt (by omega))
        replace HB := Hid.intro (HB.out.trans (hb.mono hs1))
        replace hs1 : w.heap.size ≤ wn.heap.size := by have := hb.size; omega
        replace HR := Hid.intro hr
        refine hKK.out _ _ HC.out (fun hS => ?_)
        clear hKK KK hb hr
        refine wpAnyH_ready (rs := [0, 7]) (by kernel_rfl) (by simp) (AllReadyH.cons (o := { dst := some 10, op := _, type := _, pos := _, after := _, guard := none }) rfl (fun KK hKK => ?_) (AllReadyH.cons (o := { dst := some 17, op := _, type := _, pos := _, after := _, guard := none }) rfl (fun KK hKK => ?_) AllReadyH.nil))
        · skip
          go_simp
          have HA : Hid (Blk wn.heap.size #[.string ⟨#[122, 111, 110, 101]⟩, .string ⟨#[99, 111, 108, 111, 114]⟩, .string ⟨#[115, 115, 100]⟩] 9 (wn.alloc (Obj.cells #[.string ⟨#[122, 111, 110, 101]⟩, .string ⟨#[99, 111, 108, 111, 114]⟩, .string ⟨#[115, 115, 100]⟩] 9))) := Blk.alloc _ _ _
          have hbw : Below wn.heap.size wn (wn.alloc (Obj.cells #[.string ⟨#[122, 111, 110, 101]⟩, .string ⟨#[99, 111, 108, 111, 114]⟩, .string ⟨#[115, 115, 100]⟩] 9)) := (Below.refl _ _).alloc (Nat.le_refl _) _
          replace HC := Hid.intro (HC.out.below hbw HC.out.lt)
          have hgA : w.heap.size ≤ wn.heap.size := hs1
          replace HB := Hid.intro (HB.out.trans ((Bt.of_below hbw).mono hs1))
          replace hs1 : w.heap.size ≤ (wn.alloc (Obj.cells #[.string ⟨#[122, 111, 110, 101]⟩, .string ⟨#[99, 111, 108, 111, 114]⟩, .string ⟨#[115, 115, 100]⟩] 9)).heap.size := by have := hbw.size; omega
          replace HR := Hid.intro (HR.out.below hbw HR.out.lt)
          clear hbw
          refine hKK.out _ _ HC.out (fun hS => ?_)
          clear hKK KK hS
          generalize wn.heap.size = gA at *
          generalize wn.alloc (Obj.cells #[.string ⟨#[122, 111, 110, 101]⟩, .string ⟨#[99, 111, 108, 111, 114]⟩, .string ⟨#[115, 115, 100]⟩] 9) = wn at *
          refine wpAnyH_mono (S' := fun wy => Blk gA #[.string ⟨#[122, 111, 110, 101]⟩, .string ⟨#[99, 111, 108, 111, 114]⟩, .string ⟨#[115, 115, 100]⟩] 9 wy ∧ Blk gB #[.string ⟨#[101, 97, 115, 116]⟩, .string ⟨#[119, 101, 115, 116]⟩, .string ⟨#[114, 101, 100]⟩, .string ⟨#[97]⟩] 9 wy) (fun _ h => h.2) _ _ _ _ ?_
          have hS : (fun wy => Blk gA #[.string ⟨#[122, 111, 110, 101]⟩, .string ⟨#[99, 111, 108, 111, 114]⟩, .string ⟨#[115, 115, 100]⟩] 9 wy ∧ Blk gB #[.string ⟨#[101, 97, 115, 116]⟩, .string ⟨#[119, 101, 115, 116]⟩, .string ⟨#[114, 101, 100]⟩, .string ⟨#[97]⟩] 9 wy) wn := ⟨HA.out, HC.out⟩
          obtain ⟨s1, hd1, hz1⟩ := tabS [⟨#[122, 111, 110, 101]⟩, ⟨#[99, 111, 108, 111, 114]⟩, ⟨#[115, 115, 100]⟩] u1 (by simp; omega) (by decide)
          refine wpAnyH_take (i := 3) (oi := { dst := some 13, op := _, type := _, pos := _, after := _, guard := none }) (v := .pointer (some ⟨gA, u1, none⟩)) rfl (by kernel_rfl) (by kernel_rfl) (by kernel_rfl) (fun _ _ _ h => h) (Or.inl ⟨by rfl, ?_⟩) hS ?_
          · intro wy hy
            clear hy
            first | (go_simp; done) | (go_simp; omega) | (go_simp; intro hh; omega)
          simp only [Act.put, List.setIfInBounds_toArray, List.set_cons_zero, List.set_cons_succ]
          refine wpAnyH_take (i := 4) (oi := { dst := some 14, op := _, type := _, pos := _, after := _, guard := none }) (v := .string s1) rfl (by kernel_rfl) (by kernel_rfl) (by kernel_rfl) (fun _ _ _ h => h) (Or.inl ⟨by rfl, ?_⟩) hS ?_
          · intro wy hy
            have h0 := (hy.1).cell (o := u1) (v := .string s1) hd1
            clear hy
            go_simp
          simp only [Act.put, List.setIfInBounds_toArray, List.set_cons_zero, List.set_cons_succ]
          refine wpAnyH_ready (rs := [7]) (by kernel_rfl) (by simp) (AllReadyH.cons (o := { dst := some 17, op := _, type := _, pos := _, after := _, guard := none }) rfl (fun KK hKK => ?_) AllReadyH.nil)
          go_simp
          refine (pickL p (n + 2) 4 _ HR.out (by omega) (by omega) (by omega)).mono ?_
          rintro e wn ⟨u2, rfl, hu2, hr, hb⟩
          replace HA := Hid.intro (HA.out.bt hb HA.out.lt (by omega))
          replace HC := Hid.intro (HC.out.bt hb HC.out.lt (by omega))
          replace HB := Hid.intro (HB.out.trans (hb.mono hs1))
          replace hs1 : w.heap.size ≤ wn.heap.size := by have := hb.size; omega
          replace HR := Hid.intro hr
          refine hKK.out _ _ ⟨HA.out, HC.out⟩ (fun hS => ?_)
          clear hKK KK hb hr
          obtain ⟨s2, hd2, hz2⟩ := tabS [⟨#[101, 97, 115, 116]⟩, ⟨#[119, 101, 115, 116]⟩, ⟨#[114, 101, 100]⟩, ⟨#[97]⟩] u2 (by simp; omega) (by decide)
          refine wpAnyH_take (i := 8) (oi := { dst := some 18, op := _, type := _, pos := _, after := _, guard := none }) (v := .pointer (some ⟨gB, u2, none⟩)) rfl (by kernel_rfl) (by kernel_rfl) (by kernel_rfl) (fun _ _ _ h => h) (Or.inl ⟨by rfl, ?_⟩) hS ?_
          · intro wy hy
            clear hy
            first | (go_simp; done) | (go_simp; omega) | (go_simp; intro hh; omega)
          simp only [Act.put, List.setIfInBounds_toArray, List.set_cons_zero, List.set_cons_succ]
          refine wpAnyH_take (i := 9) (oi := { dst := some 19, op := _, type := _, pos := _, after := _, guard := none }) (v := .string s2) rfl (by kernel_rfl) (by kernel_rfl) (by kernel_rfl) (fun _ _ _ h => h) (Or.inl ⟨by rfl, ?_⟩) hS ?_
          · intro wy hy
            have h0 := (hy.2).cell (o := u2) (v := .string s2) hd2
            clear hy
            go_simp
          simp only [Act.put, List.setIfInBounds_toArray, List.set_cons_zero, List.set_cons_succ]
          refine wpAnyH_take (i := 10) (oi := { dst := some 20, op := _, type := _, pos := _, after := _, guard := none }) (v := .agg #[.int .i64 2, .string s1, .string s2, .int .i64 0]) rfl (by kernel_rfl) (by kernel_rfl) (by kernel_rfl) (fun _ _ _ h => h) (Or.inl ⟨by rfl, ?_⟩) hS ?_
          · intro wy hy
            clear hy
            go_simp
          simp only [Act.put, List.setIfInBounds_toArray, List.set_cons_zero, List.set_cons_succ]
          have HN := Hid.intro (node_row wn ⟨2, s1, s2, 0⟩ 36 w.heap.size hs1)
          have hba : Below wn.heap.size wn (wn.alloc (.cells #[.int .i64 2, .string s1, .string s2, .int .i64 0] 36)) := (Below.refl _ _).alloc (Nat.le_refl _) _
          refine wpAnyH_ready (rs := [11]) (by kernel_rfl) (by simp) (AllReadyH.cons (o := { dst := some 21, op := _, type := _, pos := _, after := _, guard := none }) rfl (fun KK hKK => ?_) AllReadyH.nil)
          go_simp
          refine hKK.out _ _ ⟨HA.out.below hba HA.out.lt, HC.out.below hba HC.out.lt⟩ (fun hS => ?_)
          clear hKK KK
          refine wpAnyH_take (i := 12) (oi := { dst := some 2, op := _, type := _, pos := _, after := _, guard := none }) (v := .slice (some ⟨wn.heap.size, 0, none⟩) 1 1) rfl (by kernel_rfl) (by kernel_rfl) (by kernel_rfl) (fun _ _ _ h => h) (Or.inl ⟨by rfl, ?_⟩) hS ?_
          · intro wy hy
            clear hy
            go_simp
          simp only [Act.put, List.setIfInBounds_toArray, List.set_cons_zero, List.set_cons_succ]
          refine wpAnyH_done (by kernel_rfl) ?_ _
          clear hS
          go_wp2_with fail
          go_ret
          exact ⟨_, rfl, [⟨2, s1, s2, 0⟩], HN.out, by simp, by simp, Sh.one hz1 hz2, (HR.out.below hba HR.out.lt).mono (by omega), HB.out.trans ((Bt.of_below hba).mono hs1)⟩
        · skip
          go_simp
          refine (pickL p (n + 2) 4 _ HR.out (by omega) (by omega) (by omega)).mono ?_
          rintro e wn ⟨u2, rfl, hu2, hr, hb⟩
          replace HC := Hid.intro (HC.out.bt hb HC.out.lt (by omega))
          replace HB := Hid.intro (HB.out.trans (hb.mono hs1))
          replace hs1 : w.heap.size ≤ wn.heap.size := by have := hb.size; omega
          replace HR := Hid.intro hr
          refine hKK.out _ _ HC.out (fun hS => ?_)
          clear hKK KK hb hr
          obtain ⟨s2, hd2, hz2⟩ := tabS [⟨#[101, 97, 115, 116]⟩, ⟨#[119, 101, 115, 116]⟩, ⟨#[114, 101, 100]⟩, ⟨#[97]⟩] u2 (by simp; omega) (by decide)
          refine wpAnyH_take (i := 8) (oi := { dst := some 18, op := _, type := _, pos := _, after := _, guard := none }) (v := .pointer (some ⟨gB, u2, none⟩)) rfl (by kernel_rfl) (by kernel_rfl) (by kernel_rfl) (fun _ _ _ h => h) (Or.inl ⟨by rfl, ?_⟩) hS ?_
          · intro wy hy
            clear hy
            first | (go_simp; done) | (go_simp; omega) | (go_simp; intro hh; omega)
          simp only [Act.put, List.setIfInBounds_toArray, List.set_cons_zero, List.set_cons_succ]
          refine wpAnyH_take (i := 9) (oi := { dst := some 19, op := _, type := _, pos := _, after := _, guard := none }) (v := .string s2) rfl (by kernel_rfl) (by kernel_rfl) (by kernel_rfl) (fun _ _ _ h => h) (Or.inl ⟨by rfl, ?_⟩) hS ?_
          · intro wy hy
            have h0 := (hy).cell (o := u2) (v := .string s2) hd2
            clear hy
            go_simp
          simp only [Act.put, List.setIfInBounds_toArray, List.set_cons_zero, List.set_cons_succ]
          refine wpAnyH_ready (rs := [0]) (by kernel_rfl) (by simp) (AllReadyH.cons (o := { dst := some 10, op := _, type := _, pos := _, after := _, guard := none }) rfl (fun KK hKK => ?_) AllReadyH.nil)
          go_simp
          have HA : Hid (Blk wn.heap.size #[.string ⟨#[122, 111, 110, 101]⟩, .string ⟨#[99, 111, 108, 111, 114]⟩, .string ⟨#[115, 115, 100]⟩] 9 (wn.alloc (Obj.cells #[.string ⟨#[122, 111, 110, 101]⟩, .string ⟨#[99, 111, 108, 111, 114]⟩, .string ⟨#[115, 115, 100]⟩] 9))) := Blk.alloc _ _ _
          have hbw : Below wn.heap.size wn (wn.alloc (Obj.cells #[.string ⟨#[122, 111, 110, 101]⟩, .string ⟨#[99, 111, 108, 111, 114]⟩, .string ⟨#[115, 115, 100]⟩] 9)) := (Below.refl _ _).alloc (Nat.le_refl _) _
          replace HC := Hid.intro (HC.out.below hbw HC.out.lt)
          have hgA : w.heap.size ≤ wn.heap.size := hs1
          replace HB := Hid.intro (HB.out.trans ((Bt.of_below hbw).mono hs1))
          replace hs1 : w.heap.size ≤ (wn.alloc (Obj.cells #[.string ⟨#[122, 111, 110, 101]⟩, .string ⟨#[99, 111, 108, 111, 114]⟩, .string ⟨#[115, 115, 100]⟩] 9)).heap.size := by have := hbw.size; omega
          replace HR := Hid.intro (HR.out.below hbw HR.out.lt)
          clear hbw
          refine hKK.out _ _ HC.out (fun hS => ?_)
          clear hKK KK hS
          generalize wn.heap.size = gA at *
          generalize wn.alloc (Obj.cells #[.string ⟨#[122, 111, 110, 101]⟩, .string ⟨#[99, 111, 108, 111, 114]⟩, .string ⟨#[115, 115, 100]⟩] 9) = wn at *
          refine wpAnyH_mono (S' := fun wy => Blk gA #[.string ⟨#[122, 111, 110, 101]⟩, .string ⟨#[99, 111, 108, 111, 114]⟩, .string ⟨#[115, 115, 100]⟩] 9 wy ∧ Blk gB #[.string ⟨#[101, 97, 115, 116]⟩, .string ⟨#[119, 101, 115, 116]⟩, .string ⟨#[114, 101, 100]⟩, .string ⟨#[97]⟩] 9 wy) (fun _ h => h.2) _ _ _ _ ?_
          have hS : (fun wy => Blk gA #[.string ⟨#[122, 111, 110, 101]⟩, .string ⟨#[99, 111, 108, 111, 114]⟩, .string ⟨#[115, 115, 100]⟩] 9 wy ∧ Blk gB #[.string ⟨#[101, 97, 115, 116]⟩, .string ⟨#[119, 101, 115, 116]⟩, .string ⟨#[114, 101, 100]⟩, .string ⟨#[97]⟩] 9 wy) wn := ⟨HA.out, HC.out⟩
          obtain ⟨s1, hd1, hz1⟩ := tabS [⟨#[122, 111, 110, 101]⟩, ⟨#[99, 111, 108, 111, 114]⟩, ⟨#[115, 115, 100]⟩] u1 (by simp; omega) (by decide)
          refine wpAnyH_take (i := 3) (oi := { dst := some 13, op := _, type := _, pos := _, after := _, guard := none }) (v := .pointer (some ⟨gA, u1, none⟩)) rfl (by kernel_rfl) (by kernel_rfl) (by kernel_rfl) (fun _ _ _ h => h) (Or.inl ⟨by rfl, ?_⟩) hS ?_
          · intro wy hy
            clear hy
            first | (go_simp; done) | (go_simp; omega) | (go_simp; intro hh; omega)
          simp only [Act.put, List.setIfInBounds_toArray, List.set_cons_zero, List.set_cons_succ]
          refine wpAnyH_take (i := 4) (oi := { dst := some 14, op := _, type := _, pos := _, after := _, guard := none }) (v := .string s1) rfl (by kernel_rfl) (by kernel_rfl) (by kernel_rfl) (fun _ _ _ h => h) (Or.inl ⟨by rfl, ?_⟩) hS ?_
          · intro wy hy
            have h0 := (hy.1).cell (o := u1) (v := .string s1) hd1
            clear hy
            go_simp
          simp only [Act.put, List.setIfInBounds_toArray, List.set_cons_zero, List.set_cons_succ]
          refine wpAnyH_take (i := 10) (oi := { dst := some 20, op := _, type := _, pos := _, after := _, guard := none }) (v := .agg #[.int .i64 2, .string s1, .string s2, .int .i64 0]) rfl (by kernel_rfl) (by kernel_rfl) (by kernel_rfl) (fun _ _ _ h => h) (Or.inl ⟨by rfl, ?_⟩) hS ?_
          · intro wy hy
            clear hy
            go_simp
          simp only [Act.put, List.setIfInBounds_toArray, List.set_cons_zero, List.set_cons_succ]
          have HN := Hid.intro (node_row wn ⟨2, s1, s2, 0⟩ 36 w.heap.size hs1)
          have hba : Below wn.heap.size wn (wn.alloc (.cells #[.int .i64 2, .string s1, .string s2, .int .i64 0] 36)) := (Below.refl _ _).alloc (Nat.le_refl _) _
          refine wpAnyH_ready (rs := [11]) (by kernel_rfl) (by simp) (AllReadyH.cons (o := { dst := some 21, op := _, type := _, pos := _, after := _, guard := none }) rfl (fun KK hKK => ?_) AllReadyH.nil)
          go_simp
          refine hKK.out _ _ ⟨HA.out.below hba HA.out.lt, HC.out.below hba HC.out.lt⟩ (fun hS => ?_)
          clear hKK KK
          refine wpAnyH_take (i := 12) (oi := { dst := some 2, op := _, type := _, pos := _, after := _, guard := none }) (v := .slice (some ⟨wn.heap.size, 0, none⟩) 1 1) rfl (by kernel_rfl) (by kernel_rfl) (by kernel_rfl) (fun _ _ _ h => h) (Or.inl ⟨by rfl, ?_⟩) hS ?_
          · intro wy hy
            clear hy
            go_simp
          simp only [Act.put, List.setIfInBounds_toArray, List.set_cons_zero, List.set_cons_succ]
          refine wpAnyH_done (by kernel_rfl) ?_ _
          clear hS
          go_wp2_with fail
          go_ret
          exact ⟨_, rfl, [⟨2, s1, s2, 0⟩], HN.out, by simp, by simp, Sh.one hz1 hz2, (HR.out.below hba HR.out.lt).mono (by omega), HB.out.trans ((Bt.of_below hba).mono hs1)⟩

set_option maxHeartbeats 4000000 in
set_option maxRecDepth 100000 in
theorem many_any (s : ByteArray) (k : Nat) (w : World) (hs : s.size ≤ 1) (hk : k ≤ 255) :
    Calls Tryz.prog 24 #[.string s, .int .i64 (k : Int)] w fun e w' => ∃ t : ByteArray, e = .returned (.string t) ∧ t.size ≤ 509 ∧ w' = w := by
  have HK : Hid (k ≤ 255) := hk
  have HS : Hid (s.size ≤ 1) := hs
  clear hk hs
  go_enter Tryz.func24, Tryz.ntmps24
  go_wp2_with fail
  go_loop [0, 1, 5] (fun a i b => ∃ (x y : ByteArray) (m q : Nat), a = .string x ∧ i = .int .i64 (m : Int) ∧ b = .string y ∧ x.size ≤ q ∧ y.size + 1 ≤ q ∧ Hid (m * q ≤ 255) ∧ q ≤ 510 ∧ m ≤ 255) (fun _ i _ => (intOf i).toNat)
  case atStart => exact ⟨s, ⟨#[]⟩, k, 1, rfl, rfl, rfl, HS.out, by decide, by show _ ≤ _; have := HK.out; omega, by omega, HK.out⟩
  case round =>
    obtain ⟨x, y, m, q, rfl, rfl, rfl, h1, h2, h3, h4, h5⟩ := hrel
    rcases Nat.eq_zero_or_pos m with rfl | hm
    · go_wp2_with fail
      go_ret
      exact ⟨y, rfl, by omega, rfl⟩
    · have hq : q ≤ 255 := Nat.le_trans (Nat.le_mul_of_pos_left q hm) h3.out
      have h3b : Hid (m / 2 * (q + q) ≤ 255) := by
        show _ ≤ _
        have h := h3.out
        have h6 : m / 2 * 2 ≤ m := Nat.div_mul_le_self m 2
        calc m / 2 * (q + q) = m / 2 * 2 * q := by rw [← Nat.two_mul, Nat.mul_assoc]
          _ ≤ m * q := Nat.mul_le_mul_right q h6
          _ ≤ 255 := h
      have m0 : (0 : Int) < (m : Int) := by omega
      have hxx : (x ++ x).size = x.size + x.size := by rw [ByteArray.size_append]
      have hyx : (y ++ x).size = y.size + x.size := by rw [ByteArray.size_append]
      rcases (by omega : m % 2 = 0 ∨ m % 2 = 1) with he | he
      · have e1 : (m : Int).tmod 2 = 0 := by rw [Int.tmod_eq_emod_of_nonneg (by omega)]; omega
        have e2 : (m : Int) % 2 = 0 := by omega
        go_wp2_with fail
        go_round
        case rel => exact ⟨x ++ x, y, m / 2, q + q, rfl, by go_num, rfl, by omega, by omega, h3b, by omega, by omega⟩
        case measure => simp [intOf]; omega
      · have e1 : (m : Int).tmod 2 = 1 := by rw [Int.tmod_eq_emod_of_nonneg (by omega)]; omega
        have e2 : (m : Int) % 2 = 1 := by omega
        go_wp2_with fail
        go_round
        case rel => exact ⟨x ++ x, y ++ x, m / 2, q + q, rfl, by go_num, rfl, by omega, by omega, h3b, by omega, by omega⟩
        case measure => simp [intOf]; omega

end Go.Proofs.YthjicahpfhjfdaaGreatDoor
