/-
  The heap of the queue in memory: two compared and swapped, the lesser of two kids. Made by mkhpq.py.
-/
import Derived.Test.YtggbhggnemlpnaaGreatJ1
import Derived.Test.YtggbhggnemlpnaaGreatJ8
import Derived.Shelf.Abstract
import Derived.Deep.RegionHeld3
namespace Go.Proofs.YtggbhggnemlpnaaGreat
open Go.RowKit

/-- what a comparison reads: the copies, in a box -/
def QK (x : Flt) (a3 : Option Addr) (c3 : Nat) (Wb : World) (Bc : Nat) (W : World) : Prop := Below Wb.heap.size Wb W ∧ Blk Bc #[.slice a3 x.copies.length c3] 32 W

/-- a heap in memory -/
structure HpW (x : Flt) (a3 : Option Addr) (c3 : Nat) (Wb : World) (Bc hb : Nat) (lv : Value) (l : List Nat) (W : World) : Prop where
  bel : Below Wb.heap.size Wb W
  box : Blk Bc #[.slice a3 x.copies.length c3] 32 W
  blk : Blk hb #[lv, .func (.func 61) #[] #[.pointer (some ⟨Bc, 0, none⟩)]] 110 W
  row : W.ownsRow Wb.heap.size 3 1 lv l.length (plV l)
  n1 : ∀ g, lv.ownBlock = some g → g ≠ hb ∧ g ≠ Bc
  n3 : hb ≠ Bc
  b1 : Wb.heap.size ≤ hb
  b2 : Wb.heap.size ≤ Bc

theorem HpW.qk {x : Flt} {a3 : Option Addr} {c3 : Nat} {Wb : World} {Bc hb : Nat} {lv : Value} {l : List Nat} {W : World} (h : HpW x a3 c3 Wb Bc hb lv l W) : QK x a3 c3 Wb Bc W := ⟨h.bel, h.box⟩
theorem HpW.below {x : Flt} {a3 : Option Addr} {c3 : Nat} {Wb : World} {Bc hb : Nat} {lv : Value} {l : List Nat} {W W' : World} (h : HpW x a3 c3 Wb Bc hb lv l W) (hB : Below W.heap.size W W') : HpW x a3 c3 Wb Bc hb lv l W' :=
  ⟨h.bel.trans (hB.mono h.bel.size), h.box.below hB h.box.lt, h.blk.below hB h.blk.lt, ownsRow_below h.row hB, h.n1, h.n3, h.b1, h.b2⟩
theorem HpW.drew {x : Flt} {a3 : Option Addr} {c3 : Nat} {Wb : World} {Bc hb : Nat} {lv : Value} {l : List Nat} {W : World} (h : HpW x a3 c3 Wb Bc hb lv l W) : HpW x a3 c3 Wb Bc hb lv l W.drew := h.below (Below.refl _ _).drew

/-- a list that is not empty lies somewhere -/
theorem HpW.at_ {x : Flt} {a3 : Option Addr} {c3 : Nat} {Wb : World} {Bc hb : Nat} {lv : Value} {l : List Nat} {W : World} (h : HpW x a3 c3 Wb Bc hb lv l W) (hl : 0 < l.length) : ∃ g cap cur, lv = .slice (some ⟨g, 0, none⟩) l.length cap ∧ Wb.heap.size ≤ g ∧ W.heap[g]? = some (.cells cur 3 (0, 0)) ∧ l.length ≤ cap ∧ cap ≤ maxLen ∧ cur.size = cap * 1 ∧ cur.toList.take (l.length * 1) = plV l := by
  rcases h.row.2 with ⟨_, h2⟩ | ⟨g, cap, cur, h1, h2, h3, h4, h5, h6, h7⟩
  · omega
  · exact ⟨g, cap, cur, h1, h2, h3, h4, h5, h6, h7⟩

theorem rowN_cell {base g q n : Nat} {w : World} {l : List Nat} (hn : n = l.length) (h : w.ownsRow base 3 1 (.slice (some ⟨g, 0, none⟩) n q) n (plV l)) {j : Nat} (hj : j < l.length) : w.cell? ⟨g, j, none⟩ = some (.int .i64 ((hAt l j : Nat) : Int)) := by
  subst hn
  have := h.cellAt j (by simp; omega)
  simpa [hAt_get hj] using this

theorem rowN_frz {base g q n : Nat} {w : World} {l : List Nat} (hn : n = l.length) (h : w.ownsRow base 3 1 (.slice (some ⟨g, 0, none⟩) n q) l.length (plV l)) (p : Nat) : w.frozen? ⟨g, p, none⟩ = false := by
  subst hn
  exact h.frozenAt p

/-- one number of the list stored -/
theorem rowN_set {base g q n : Nat} {w : World} {l : List Nat} (hn : n = l.length) (h : w.ownsRow base 3 1 (.slice (some ⟨g, 0, none⟩) n q) n (plV l)) {j : Nat} (_hj : j < l.length) (v : Nat) : (w.setCell ⟨g, j, none⟩ (.int .i64 ((v : Nat) : Int))).ownsRow base 3 1 (.slice (some ⟨g, 0, none⟩) n q) n (plV (l.set j v)) := by
  subst hn
  rcases h.2 with ⟨h1, _⟩ | ⟨g', cap, cur, h1, h2, h3, h4, h5, h6, h7⟩
  · cases h1
  · cases h1
    refine ⟨by simp, .inr ⟨g, q, cur.setIfInBounds j (.int .i64 ((v : Nat) : Int)), rfl, h2, ?_, h4, h5, by simpa using h6, ?_⟩⟩
    · have hb : Blk g cur 3 w := h3
      exact hb.set j _
    · rw [Nat.mul_one] at h7 ⊢
      rw [Array.toList_setIfInBounds, List.take_set, h7]
      simp [plV, List.map_set]

theorem HpW.set {x : Flt} {a3 : Option Addr} {c3 : Nat} {Wb : World} {Bc hb g cap n : Nat} {l : List Nat} {W : World} (hn : n = l.length) (h : HpW x a3 c3 Wb Bc hb (.slice (some ⟨g, 0, none⟩) n cap) l W) {j : Nat} (hj : j < l.length) (v : Nat) : HpW x a3 c3 Wb Bc hb (.slice (some ⟨g, 0, none⟩) n cap) (l.set j v) (W.setCell ⟨g, j, none⟩ (.int .i64 ((v : Nat) : Int))) := by
  subst hn
  obtain ⟨n1, n2⟩ := h.n1 g rfl
  have hg := (h.row.lt g rfl).1
  refine ⟨h.bel.setCell (p := ⟨g, j, none⟩) hg _, h.box.other (Ne.symm n2) _, h.blk.other (Ne.symm n1) _, ?_, h.n1, h.n3, h.b1, h.b2⟩
  have := rowN_set rfl h.row hj v
  simpa using this

/-- what the comparison answers -/
def CmpQ (x : Flt) (a3 : Option Addr) (c3 : Nat) (Wb : World) (Bc : Nat) (S : List Nat) (cf : Nat → Nat → Int) : Prop := ∀ W, QK x a3 c3 Wb Bc W → ∀ a ∈ S, ∀ b ∈ S, Calls Tryz.prog 61 #[.int .i64 ((a : Nat) : Int), .int .i64 ((b : Nat) : Int), .pointer (some ⟨Bc, 0, none⟩)] W fun e W' => e = .returned (.int .i64 (cf a b)) ∧ Below W.heap.size W W'

/-- whether two were swapped -/
def SwRes (x : Flt) (a3 : Option Addr) (c3 : Nat) (Wb : World) (Bc hb : Nat) (g n cap : Nat) (l : List Nat) (i j : Nat) (c : Int) (w : World) (e : Ending) (w' : World) : Prop := ∃ t : Bool, e = .returned (.bool t) ∧ (t = true ↔ c < 0) ∧ HpW x a3 c3 Wb Bc hb (.slice (some ⟨g, 0, none⟩) n cap) (if t = true then hSw l i j else l) w' ∧ w.grownBy w' (some g)

set_option maxHeartbeats 8000000 in
set_option maxRecDepth 100000 in
theorem swap_any (x : Flt) (a3 : Option Addr) (c3 : Nat) (Wb : World) (Bc hb : Nat) (S : List Nat) (cf : Nat → Nat → Int) (g n cap : Nat) (l : List Nat) (i j : Nat) (w : World) (hc : CmpQ x a3 c3 Wb Bc S cf) (h : HpW x a3 c3 Wb Bc hb (.slice (some ⟨g, 0, none⟩) n cap) l w) (hn : n = l.length) (hS : ∀ a ∈ l, a ∈ S) (hi : i < n) (hj : j < n) (_hs : n ≤ 1048576) :
    Calls Tryz.prog 93 #[.pointer (some ⟨hb, 0, none⟩), .int .i64 ((i : Nat) : Int), .int .i64 ((j : Nat) : Int)] w fun e w' => SwRes x a3 c3 Wb Bc hb g n cap l i j (cf (hAt l i) (hAt l j)) w e w' := by
  have HC := Hid.intro hc
  have HH := Hid.intro h
  have HSS := Hid.intro hS
  have HNL := Hid.intro hn
  clear hc h hS hn
  go_enter Tryz.func93, Tryz.ntmps93
  go_upto_region 1 with fail
  refine wp_region_held_drew (S := fun wy => HpW x a3 c3 Wb Bc hb (.slice (some ⟨g, 0, none⟩) n cap) l wy) (by kernel_rfl) HH.out.drew (fun hS => ?_)
  have hg2 : Below w.heap.size w w.drew := (Below.refl _ _).drew
  clear HH
  obtain ⟨w2, HW2⟩ : ∃ w2, Hid (w2 = w.drew) := ⟨_, rfl⟩
  rw [← HW2.out] at hS hg2 ⊢
  clear HW2
  refine wpAnyH_take (i := 0) (oi := { dst := some 7, op := _, type := _, pos := _, after := _, guard := none }) (v := .pointer (some ⟨hb, 0, none⟩)) rfl (by kernel_rfl) (by kernel_rfl) (by kernel_rfl) (fun _ _ _ h => h) (Or.inl ⟨by rfl, ?_⟩) hS ?_
  · intro wy hy
    clear hy
    go_simp
  simp only [Act.put, List.setIfInBounds_toArray, List.set_cons_zero, List.set_cons_succ]
  refine wpAnyH_take (i := 1) (oi := { dst := some 8, op := _, type := _, pos := _, after := _, guard := none }) (v := .pointer (some ⟨hb, 0, none⟩)) rfl (by kernel_rfl) (by kernel_rfl) (by kernel_rfl) (fun _ _ _ h => h) (Or.inl ⟨by rfl, ?_⟩) hS ?_
  · intro wy hy
    clear hy
    go_simp
  simp only [Act.put, List.setIfInBounds_toArray, List.set_cons_zero, List.set_cons_succ]
  refine wpAnyH_take (i := 2) (oi := { dst := some 9, op := _, type := _, pos := _, after := _, guard := none }) (v := .pointer (some ⟨hb, 1, none⟩)) rfl (by kernel_rfl) (by kernel_rfl) (by kernel_rfl) (fun _ _ _ h => h) (Or.inl ⟨by rfl, ?_⟩) hS ?_
  · intro wy hy
    clear hy
    go_simp
  simp only [Act.put, List.setIfInBounds_toArray, List.set_cons_zero, List.set_cons_succ]
  refine wpAnyH_take (i := 3) (oi := { dst := some 10, op := _, type := _, pos := _, after := _, guard := none }) (v := .func (.func 61) #[] #[.pointer (some ⟨Bc, 0, none⟩)]) rfl (by kernel_rfl) (by kernel_rfl) (by kernel_rfl) (fun _ _ _ h => h) (Or.inl ⟨by rfl, ?_⟩) hS ?_
  · intro wy hy
    have h0 : wy.cell? ⟨hb, 1, none⟩ = some (.func (.func 61) #[] #[.pointer (some ⟨Bc, 0, none⟩)]) := hy.blk.cell rfl
    clear hy
    go_simp
  simp only [Act.put, List.setIfInBounds_toArray, List.set_cons_zero, List.set_cons_succ]
  refine wpAnyH_take (i := 4) (oi := { dst := some 11, op := _, type := _, pos := _, after := _, guard := none }) (v := .pointer (some ⟨hb, 0, none⟩)) rfl (by kernel_rfl) (by kernel_rfl) (by kernel_rfl) (fun _ _ _ h => h) (Or.inl ⟨by rfl, ?_⟩) hS ?_
  · intro wy hy
    clear hy
    go_simp
  simp only [Act.put, List.setIfInBounds_toArray, List.set_cons_zero, List.set_cons_succ]
  refine wpAnyH_take (i := 5) (oi := { dst := some 12, op := _, type := _, pos := _, after := _, guard := none }) (v := .pointer (some ⟨hb, 0, none⟩)) rfl (by kernel_rfl) (by kernel_rfl) (by kernel_rfl) (fun _ _ _ h => h) (Or.inl ⟨by rfl, ?_⟩) hS ?_
  · intro wy hy
    clear hy
    go_simp
  simp only [Act.put, List.setIfInBounds_toArray, List.set_cons_zero, List.set_cons_succ]
  refine wpAnyH_take (i := 6) (oi := { dst := some 13, op := _, type := _, pos := _, after := _, guard := none }) (v := .pointer (some ⟨hb, 0, none⟩)) rfl (by kernel_rfl) (by kernel_rfl) (by kernel_rfl) (fun _ _ _ h => h) (Or.inl ⟨by rfl, ?_⟩) hS ?_
  · intro wy hy
    clear hy
    go_simp
  simp only [Act.put, List.setIfInBounds_toArray, List.set_cons_zero, List.set_cons_succ]
  refine wpAnyH_take (i := 7) (oi := { dst := some 14, op := _, type := _, pos := _, after := _, guard := none }) (v := .slice (some ⟨g, 0, none⟩) n cap) rfl (by kernel_rfl) (by kernel_rfl) (by kernel_rfl) (fun _ _ _ h => h) (Or.inl ⟨by rfl, ?_⟩) hS ?_
  · intro wy hy
    have h0 : wy.cell? ⟨hb, 0, none⟩ = some (.slice (some ⟨g, 0, none⟩) n cap) := hy.blk.cell rfl
    clear hy
    go_simp
  simp only [Act.put, List.setIfInBounds_toArray, List.set_cons_zero, List.set_cons_succ]
  refine wpAnyH_take (i := 8) (oi := { dst := some 15, op := _, type := _, pos := _, after := _, guard := none }) (v := .int .i64 ((i : Nat) : Int)) rfl (by kernel_rfl) (by kernel_rfl) (by kernel_rfl) (fun _ _ _ h => h) (Or.inl ⟨by rfl, ?_⟩) hS ?_
  · intro wy hy
    clear hy
    go_simp
  simp only [Act.put, List.setIfInBounds_toArray, List.set_cons_zero, List.set_cons_succ]
  refine wpAnyH_take (i := 9) (oi := { dst := some 16, op := _, type := _, pos := _, after := _, guard := none }) (v := .pointer (some ⟨g, i, none⟩)) rfl (by kernel_rfl) (by kernel_rfl) (by kernel_rfl) (fun _ _ _ h => h) (Or.inl ⟨by rfl, ?_⟩) hS ?_
  · intro wy hy
    clear hy
    (go_simp; try omega)
  simp only [Act.put, List.setIfInBounds_toArray, List.set_cons_zero, List.set_cons_succ]
  refine wpAnyH_take (i := 10) (oi := { dst := some 17, op := _, type := _, pos := _, after := _, guard := none }) (v := .int .i64 ((hAt l i : Nat) : Int)) rfl (by kernel_rfl) (by kernel_rfl) (by kernel_rfl) (fun _ _ _ h => h) (Or.inl ⟨by rfl, ?_⟩) hS ?_
  · intro wy hy
    have h0 : wy.cell? ⟨g, i, none⟩ = some (.int .i64 ((hAt l i : Nat) : Int)) := rowN_cell HNL.out (by have := hy.row; rw [← HNL.out] at this; exact this) (by have := HNL.out; omega)
    clear hy
    go_simp
  simp only [Act.put, List.setIfInBounds_toArray, List.set_cons_zero, List.set_cons_succ]
  refine wpAnyH_take (i := 11) (oi := { dst := some 18, op := _, type := _, pos := _, after := _, guard := none }) (v := .pointer (some ⟨hb, 0, none⟩)) rfl (by kernel_rfl) (by kernel_rfl) (by kernel_rfl) (fun _ _ _ h => h) (Or.inl ⟨by rfl, ?_⟩) hS ?_
  · intro wy hy
    clear hy
    go_simp
  simp only [Act.put, List.setIfInBounds_toArray, List.set_cons_zero, List.set_cons_succ]
  refine wpAnyH_take (i := 12) (oi := { dst := some 19, op := _, type := _, pos := _, after := _, guard := none }) (v := .pointer (some ⟨hb, 0, none⟩)) rfl (by kernel_rfl) (by kernel_rfl) (by kernel_rfl) (fun _ _ _ h => h) (Or.inl ⟨by rfl, ?_⟩) hS ?_
  · intro wy hy
    clear hy
    go_simp
  simp only [Act.put, List.setIfInBounds_toArray, List.set_cons_zero, List.set_cons_succ]
  refine wpAnyH_take (i := 13) (oi := { dst := some 20, op := _, type := _, pos := _, after := _, guard := none }) (v := .pointer (some ⟨hb, 0, none⟩)) rfl (by kernel_rfl) (by kernel_rfl) (by kernel_rfl) (fun _ _ _ h => h) (Or.inl ⟨by rfl, ?_⟩) hS ?_
  · intro wy hy
    clear hy
    go_simp
  simp only [Act.put, List.setIfInBounds_toArray, List.set_cons_zero, List.set_cons_succ]
  refine wpAnyH_take (i := 14) (oi := { dst := some 21, op := _, type := _, pos := _, after := _, guard := none }) (v := .slice (some ⟨g, 0, none⟩) n cap) rfl (by kernel_rfl) (by kernel_rfl) (by kernel_rfl) (fun _ _ _ h => h) (Or.inl ⟨by rfl, ?_⟩) hS ?_
  · intro wy hy
    have h0 : wy.cell? ⟨hb, 0, none⟩ = some (.slice (some ⟨g, 0, none⟩) n cap) := hy.blk.cell rfl
    clear hy
    go_simp
  simp only [Act.put, List.setIfInBounds_toArray, List.set_cons_zero, List.set_cons_succ]
  refine wpAnyH_take (i := 15) (oi := { dst := some 22, op := _, type := _, pos := _, after := _, guard := none }) (v := .int .i64 ((j : Nat) : Int)) rfl (by kernel_rfl) (by kernel_rfl) (by kernel_rfl) (fun _ _ _ h => h) (Or.inl ⟨by rfl, ?_⟩) hS ?_
  · intro wy hy
    clear hy
    go_simp
  simp only [Act.put, List.setIfInBounds_toArray, List.set_cons_zero, List.set_cons_succ]
  refine wpAnyH_take (i := 16) (oi := { dst := some 23, op := _, type := _, pos := _, after := _, guard := none }) (v := .pointer (some ⟨g, j, none⟩)) rfl (by kernel_rfl) (by kernel_rfl) (by kernel_rfl) (fun _ _ _ h => h) (Or.inl ⟨by rfl, ?_⟩) hS ?_
  · intro wy hy
    clear hy
    (go_simp; try omega)
  simp only [Act.put, List.setIfInBounds_toArray, List.set_cons_zero, List.set_cons_succ]
  refine wpAnyH_take (i := 17) (oi := { dst := some 24, op := _, type := _, pos := _, after := _, guard := none }) (v := .int .i64 ((hAt l j : Nat) : Int)) rfl (by kernel_rfl) (by kernel_rfl) (by kernel_rfl) (fun _ _ _ h => h) (Or.inl ⟨by rfl, ?_⟩) hS ?_
  · intro wy hy
    have h0 : wy.cell? ⟨g, j, none⟩ = some (.int .i64 ((hAt l j : Nat) : Int)) := rowN_cell HNL.out (by have := hy.row; rw [← HNL.out] at this; exact this) (by have := HNL.out; omega)
    clear hy
    go_simp
  simp only [Act.put, List.setIfInBounds_toArray, List.set_cons_zero, List.set_cons_succ]
  refine wpAnyH_ready (rs := [18]) (by kernel_rfl) (by simp) (AllReadyH.cons (o := { dst := some 25, op := _, type := _, pos := _, after := _, guard := none }) rfl (fun K hK => ?_) AllReadyH.nil)
  have heg : ∀ args w, (callFunc 61 args).run Tryz.prog w = .ok (.enter 61 args) w := enters_of Tryz.func61 (by kernel_rfl) rfl
  go_simp
  refine (HC.out _ hS.qk (hAt l i) (HSS.out _ (hAt_mem (by have := HNL.out; omega))) (hAt l j) (HSS.out _ (hAt_mem (by have := HNL.out; omega)))).mono ?_
  rintro e w3 ⟨rfl, hb3⟩
  clear heg
  have hB3 := hg2.trans (hb3.mono hg2.size)
  clear hg2
  refine hK.out _ _ (hS.below hb3) (fun hS => ?_)
  clear hK K hb3
  generalize hcv : cf (hAt l i) (hAt l j) = cv at *
  have HCV := Hid.intro hcv
  clear hcv
  have HH := Hid.intro hS
  by_cases hlt : cv < 0
  case neg =>
    have hge : 0 ≤ cv := by omega
    refine wpAnyH_take (i := 19) (oi := { dst := some 26, op := _, type := _, pos := _, after := _, guard := none }) (v := .bool true) rfl (by kernel_rfl) (by kernel_rfl) (by kernel_rfl) (fun _ _ _ h => h) (Or.inl ⟨by rfl, ?_⟩) hS ?_
    · intro wy hy
      clear hy
      go_simp
    simp only [Act.put, List.setIfInBounds_toArray, List.set_cons_zero, List.set_cons_succ]
    refine wpAnyH_done (by kernel_rfl) ?_ _
    clear hS
    go_wp2_with fail
    go_ret
    refine ⟨false, rfl, ⟨fun h => (by cases h), fun h => absurd h (by first | omega | (rw [HCV.out]; omega))⟩, ?_, ⟨hB3.os, hB3.tape, hB3.output, hB3.size, fun k hk _ => hB3.block k hk⟩⟩
    rw [if_neg (by decide)]
    exact HH.out
  refine wpAnyH_take (i := 19) (oi := { dst := some 26, op := _, type := _, pos := _, after := _, guard := none }) (v := .bool false) rfl (by kernel_rfl) (by kernel_rfl) (by kernel_rfl) (fun _ _ _ h => h) (Or.inl ⟨by rfl, ?_⟩) hS ?_
  · intro wy hy
    clear hy
    go_simp
  simp only [Act.put, List.setIfInBounds_toArray, List.set_cons_zero, List.set_cons_succ]
  refine wpAnyH_done (by kernel_rfl) ?_ _
  clear hS
  have ks : w3.cell? ⟨hb, 0, none⟩ = some (.slice (some ⟨g, 0, none⟩) n cap) := HH.out.blk.cell rfl
  go_upto_region 3 with fail
  clear ks
  refine wp_region_held_drew (S := fun wy => Blk hb #[.slice (some ⟨g, 0, none⟩) n cap, .func (.func 61) #[] #[.pointer (some ⟨Bc, 0, none⟩)]] 110 wy) (by kernel_rfl) HH.out.blk.drew (fun hS => ?_)
  replace HH := Hid.intro HH.out.drew
  replace hB3 := hB3.drew
  generalize w3.drew = wn at *
  refine wpAnyH_take (i := 0) (oi := { dst := some 27, op := _, type := _, pos := _, after := _, guard := none }) (v := .pointer (some ⟨hb, 0, none⟩)) rfl (by kernel_rfl) (by kernel_rfl) (by kernel_rfl) (fun _ _ _ h => h) (Or.inl ⟨by rfl, ?_⟩) hS ?_
  · intro wy hy
    clear hy
    go_simp
  simp only [Act.put, List.setIfInBounds_toArray, List.set_cons_zero, List.set_cons_succ]
  refine wpAnyH_take (i := 1) (oi := { dst := some 28, op := _, type := _, pos := _, after := _, guard := none }) (v := .pointer (some ⟨hb, 0, none⟩)) rfl (by kernel_rfl) (by kernel_rfl) (by kernel_rfl) (fun _ _ _ h => h) (Or.inl ⟨by rfl, ?_⟩) hS ?_
  · intro wy hy
    clear hy
    go_simp
  simp only [Act.put, List.setIfInBounds_toArray, List.set_cons_zero, List.set_cons_succ]
  refine wpAnyH_take (i := 2) (oi := { dst := some 29, op := _, type := _, pos := _, after := _, guard := none }) (v := .pointer (some ⟨hb, 0, none⟩)) rfl (by kernel_rfl) (by kernel_rfl) (by kernel_rfl) (fun _ _ _ h => h) (Or.inl ⟨by rfl, ?_⟩) hS ?_
  · intro wy hy
    clear hy
    go_simp
  simp only [Act.put, List.setIfInBounds_toArray, List.set_cons_zero, List.set_cons_succ]
  refine wpAnyH_take (i := 3) (oi := { dst := some 30, op := _, type := _, pos := _, after := _, guard := none }) (v := .slice (some ⟨g, 0, none⟩) n cap) rfl (by kernel_rfl) (by kernel_rfl) (by kernel_rfl) (fun _ _ _ h => h) (Or.inl ⟨by rfl, ?_⟩) hS ?_
  · intro wy hy
    have h0 : wy.cell? ⟨hb, 0, none⟩ = some (.slice (some ⟨g, 0, none⟩) n cap) := hy.cell rfl
    clear hy
    go_simp
  simp only [Act.put, List.setIfInBounds_toArray, List.set_cons_zero, List.set_cons_succ]
  refine wpAnyH_take (i := 4) (oi := { dst := some 31, op := _, type := _, pos := _, after := _, guard := none }) (v := .int .i64 ((i : Nat) : Int)) rfl (by kernel_rfl) (by kernel_rfl) (by kernel_rfl) (fun _ _ _ h => h) (Or.inl ⟨by rfl, ?_⟩) hS ?_
  · intro wy hy
    clear hy
    go_simp
  simp only [Act.put, List.setIfInBounds_toArray, List.set_cons_zero, List.set_cons_succ]
  refine wpAnyH_take (i := 5) (oi := { dst := some 32, op := _, type := _, pos := _, after := _, guard := none }) (v := .pointer (some ⟨hb, 0, none⟩)) rfl (by kernel_rfl) (by kernel_rfl) (by kernel_rfl) (fun _ _ _ h => h) (Or.inl ⟨by rfl, ?_⟩) hS ?_
  · intro wy hy
    clear hy
    go_simp
  simp only [Act.put, List.setIfInBounds_toArray, List.set_cons_zero, List.set_cons_succ]
  refine wpAnyH_take (i := 6) (oi := { dst := some 33, op := _, type := _, pos := _, after := _, guard := none }) (v := .pointer (some ⟨hb, 0, none⟩)) rfl (by kernel_rfl) (by kernel_rfl) (by kernel_rfl) (fun _ _ _ h => h) (Or.inl ⟨by rfl, ?_⟩) hS ?_
  · intro wy hy
    clear hy
    go_simp
  simp only [Act.put, List.setIfInBounds_toArray, List.set_cons_zero, List.set_cons_succ]
  refine wpAnyH_take (i := 7) (oi := { dst := some 34, op := _, type := _, pos := _, after := _, guard := none }) (v := .pointer (some ⟨hb, 0, none⟩)) rfl (by kernel_rfl) (by kernel_rfl) (by kernel_rfl) (fun _ _ _ h => h) (Or.inl ⟨by rfl, ?_⟩) hS ?_
  · intro wy hy
    clear hy
    go_simp
  simp only [Act.put, List.setIfInBounds_toArray, List.set_cons_zero, List.set_cons_succ]
  refine wpAnyH_take (i := 8) (oi := { dst := some 35, op := _, type := _, pos := _, after := _, guard := none }) (v := .slice (some ⟨g, 0, none⟩) n cap) rfl (by kernel_rfl) (by kernel_rfl) (by kernel_rfl) (fun _ _ _ h => h) (Or.inl ⟨by rfl, ?_⟩) hS ?_
  · intro wy hy
    have h0 : wy.cell? ⟨hb, 0, none⟩ = some (.slice (some ⟨g, 0, none⟩) n cap) := hy.cell rfl
    clear hy
    go_simp
  simp only [Act.put, List.setIfInBounds_toArray, List.set_cons_zero, List.set_cons_succ]
  refine wpAnyH_take (i := 9) (oi := { dst := some 36, op := _, type := _, pos := _, after := _, guard := none }) (v := .int .i64 ((j : Nat) : Int)) rfl (by kernel_rfl) (by kernel_rfl) (by kernel_rfl) (fun _ _ _ h => h) (Or.inl ⟨by rfl, ?_⟩) hS ?_
  · intro wy hy
    clear hy
    go_simp
  simp only [Act.put, List.setIfInBounds_toArray, List.set_cons_zero, List.set_cons_succ]
  refine wpAnyH_take (i := 10) (oi := { dst := some 37, op := _, type := _, pos := _, after := _, guard := none }) (v := .pointer (some ⟨hb, 0, none⟩)) rfl (by kernel_rfl) (by kernel_rfl) (by kernel_rfl) (fun _ _ _ h => h) (Or.inl ⟨by rfl, ?_⟩) hS ?_
  · intro wy hy
    clear hy
    go_simp
  simp only [Act.put, List.setIfInBounds_toArray, List.set_cons_zero, List.set_cons_succ]
  refine wpAnyH_take (i := 11) (oi := { dst := some 38, op := _, type := _, pos := _, after := _, guard := none }) (v := .pointer (some ⟨hb, 0, none⟩)) rfl (by kernel_rfl) (by kernel_rfl) (by kernel_rfl) (fun _ _ _ h => h) (Or.inl ⟨by rfl, ?_⟩) hS ?_
  · intro wy hy
    clear hy
    go_simp
  simp only [Act.put, List.setIfInBounds_toArray, List.set_cons_zero, List.set_cons_succ]
  refine wpAnyH_take (i := 12) (oi := { dst := some 39, op := _, type := _, pos := _, after := _, guard := none }) (v := .pointer (some ⟨hb, 0, none⟩)) rfl (by kernel_rfl) (by kernel_rfl) (by kernel_rfl) (fun _ _ _ h => h) (Or.inl ⟨by rfl, ?_⟩) hS ?_
  · intro wy hy
    clear hy
    go_simp
  simp only [Act.put, List.setIfInBounds_toArray, List.set_cons_zero, List.set_cons_succ]
  refine wpAnyH_take (i := 13) (oi := { dst := some 40, op := _, type := _, pos := _, after := _, guard := none }) (v := .slice (some ⟨g, 0, none⟩) n cap) rfl (by kernel_rfl) (by kernel_rfl) (by kernel_rfl) (fun _ _ _ h => h) (Or.inl ⟨by rfl, ?_⟩) hS ?_
  · intro wy hy
    have h0 : wy.cell? ⟨hb, 0, none⟩ = some (.slice (some ⟨g, 0, none⟩) n cap) := hy.cell rfl
    clear hy
    go_simp
  simp only [Act.put, List.setIfInBounds_toArray, List.set_cons_zero, List.set_cons_succ]
  refine wpAnyH_take (i := 14) (oi := { dst := some 41, op := _, type := _, pos := _, after := _, guard := none }) (v := .int .i64 ((j : Nat) : Int)) rfl (by kernel_rfl) (by kernel_rfl) (by kernel_rfl) (fun _ _ _ h => h) (Or.inl ⟨by rfl, ?_⟩) hS ?_
  · intro wy hy
    clear hy
    go_simp
  simp only [Act.put, List.setIfInBounds_toArray, List.set_cons_zero, List.set_cons_succ]
  refine wpAnyH_take (i := 15) (oi := { dst := some 42, op := _, type := _, pos := _, after := _, guard := none }) (v := .pointer (some ⟨g, j, none⟩)) rfl (by kernel_rfl) (by kernel_rfl) (by kernel_rfl) (fun _ _ _ h => h) (Or.inl ⟨by rfl, ?_⟩) hS ?_
  · intro wy hy
    clear hy
    (go_simp; try omega)
  simp only [Act.put, List.setIfInBounds_toArray, List.set_cons_zero, List.set_cons_succ]
  refine wpAnyH_take (i := 17) (oi := { dst := some 44, op := _, type := _, pos := _, after := _, guard := none }) (v := .pointer (some ⟨hb, 0, none⟩)) rfl (by kernel_rfl) (by kernel_rfl) (by kernel_rfl) (fun _ _ _ h => h) (Or.inl ⟨by rfl, ?_⟩) hS ?_
  · intro wy hy
    clear hy
    go_simp
  simp only [Act.put, List.setIfInBounds_toArray, List.set_cons_zero, List.set_cons_succ]
  refine wpAnyH_take (i := 18) (oi := { dst := some 45, op := _, type := _, pos := _, after := _, guard := none }) (v := .pointer (some ⟨hb, 0, none⟩)) rfl (by kernel_rfl) (by kernel_rfl) (by kernel_rfl) (fun _ _ _ h => h) (Or.inl ⟨by rfl, ?_⟩) hS ?_
  · intro wy hy
    clear hy
    go_simp
  simp only [Act.put, List.setIfInBounds_toArray, List.set_cons_zero, List.set_cons_succ]
  refine wpAnyH_take (i := 19) (oi := { dst := some 46, op := _, type := _, pos := _, after := _, guard := none }) (v := .pointer (some ⟨hb, 0, none⟩)) rfl (by kernel_rfl) (by kernel_rfl) (by kernel_rfl) (fun _ _ _ h => h) (Or.inl ⟨by rfl, ?_⟩) hS ?_
  · intro wy hy
    clear hy
    go_simp
  simp only [Act.put, List.setIfInBounds_toArray, List.set_cons_zero, List.set_cons_succ]
  refine wpAnyH_take (i := 20) (oi := { dst := some 47, op := _, type := _, pos := _, after := _, guard := none }) (v := .slice (some ⟨g, 0, none⟩) n cap) rfl (by kernel_rfl) (by kernel_rfl) (by kernel_rfl) (fun _ _ _ h => h) (Or.inl ⟨by rfl, ?_⟩) hS ?_
  · intro wy hy
    have h0 : wy.cell? ⟨hb, 0, none⟩ = some (.slice (some ⟨g, 0, none⟩) n cap) := hy.cell rfl
    clear hy
    go_simp
  simp only [Act.put, List.setIfInBounds_toArray, List.set_cons_zero, List.set_cons_succ]
  refine wpAnyH_take (i := 21) (oi := { dst := some 48, op := _, type := _, pos := _, after := _, guard := none }) (v := .int .i64 ((i : Nat) : Int)) rfl (by kernel_rfl) (by kernel_rfl) (by kernel_rfl) (fun _ _ _ h => h) (Or.inl ⟨by rfl, ?_⟩) hS ?_
  · intro wy hy
    clear hy
    go_simp
  simp only [Act.put, List.setIfInBounds_toArray, List.set_cons_zero, List.set_cons_succ]
  refine wpAnyH_take (i := 22) (oi := { dst := some 49, op := _, type := _, pos := _, after := _, guard := none }) (v := .pointer (some ⟨g, i, none⟩)) rfl (by kernel_rfl) (by kernel_rfl) (by kernel_rfl) (fun _ _ _ h => h) (Or.inl ⟨by rfl, ?_⟩) hS ?_
  · intro wy hy
    clear hy
    (go_simp; try omega)
  simp only [Act.put, List.setIfInBounds_toArray, List.set_cons_zero, List.set_cons_succ]
  refine wpAnyH_ready (rs := [16, 23]) (by kernel_rfl) (by simp) (AllReadyH.cons (o := { dst := some 43, op := _, type := _, pos := _, after := _, guard := none }) rfl (fun KK hKK => ?_) (AllReadyH.cons (o := { dst := some 50, op := _, type := _, pos := _, after := _, guard := none }) rfl (fun KK hKK => ?_) AllReadyH.nil))
  · skip
    have k9 : wn.cell? ⟨g, j, none⟩ = some (.int .i64 ((hAt l j : Nat) : Int)) := rowN_cell HNL.out (by have := HH.out.row; rw [← HNL.out] at this; exact this) (by have := HNL.out; omega)
    go_simp
    refine hKK.out _ _ hS (fun hS => ?_)
    clear hKK KK k9
    refine wpAnyH_ready (rs := [23]) (by kernel_rfl) (by simp) (AllReadyH.cons (o := { dst := some 50, op := _, type := _, pos := _, after := _, guard := none }) rfl (fun KK hKK => ?_) AllReadyH.nil)
    have k9 : wn.cell? ⟨g, i, none⟩ = some (.int .i64 ((hAt l i : Nat) : Int)) := rowN_cell HNL.out (by have := HH.out.row; rw [← HNL.out] at this; exact this) (by have := HNL.out; omega)
    go_simp
    refine hKK.out _ _ hS (fun hS => ?_)
    clear hKK KK k9
    refine wpAnyH_take (i := 24) (oi := { dst := some 51, op := _, type := _, pos := _, after := _, guard := none }) (v := .pointer (some ⟨g, i, none⟩)) rfl (by kernel_rfl) (by kernel_rfl) (by kernel_rfl) (fun _ _ _ h => h) (Or.inl ⟨by rfl, ?_⟩) hS ?_
    · intro wy hy
      clear hy
      (go_simp; try omega)
    simp only [Act.put, List.setIfInBounds_toArray, List.set_cons_zero, List.set_cons_succ]
    refine wpAnyH_ready (rs := [25]) (by kernel_rfl) (by simp) (AllReadyH.cons (o := { dst := none, op := _, type := _, pos := _, after := _, guard := none }) rfl (fun KK hKK => ?_) AllReadyH.nil)
    have k9 : wn.cell? ⟨g, i, none⟩ = some (.int .i64 ((hAt l i : Nat) : Int)) := rowN_cell HNL.out (by have := HH.out.row; rw [← HNL.out] at this; exact this) (by have := HNL.out; omega)
    have f9 : wn.frozen? ⟨g, i, none⟩ = false := rowN_frz HNL.out HH.out.row i
    have HH1 := Hid.intro (HH.out.set HNL.out (j := i) (by have := HNL.out; omega) (hAt l j))
    have hg1 : wn.grownBy (wn.setCell ⟨g, i, none⟩ (.int .i64 ((hAt l j : Nat) : Int))) (some g) := ⟨rfl, rfl, rfl, by simp, fun k _ hne => Below.heap_setCell _ _ _ _ (fun e => hne (by rw [e]))⟩
    go_simp
    refine hKK.out _ _ HH1.out.blk (fun hS => ?_)
    clear hKK KK k9 f9 HH
    generalize wn.setCell ⟨g, i, none⟩ (.int .i64 ((hAt l j : Nat) : Int)) = wm at *
    refine wpAnyH_take (i := 26) (oi := { dst := some 52, op := _, type := _, pos := _, after := _, guard := none }) (v := .pointer (some ⟨g, j, none⟩)) rfl (by kernel_rfl) (by kernel_rfl) (by kernel_rfl) (fun _ _ _ h => h) (Or.inl ⟨by rfl, ?_⟩) hS ?_
    · intro wy hy
      clear hy
      (go_simp; try omega)
    simp only [Act.put, List.setIfInBounds_toArray, List.set_cons_zero, List.set_cons_succ]
    refine wpAnyH_ready (rs := [27]) (by kernel_rfl) (by simp) (AllReadyH.cons (o := { dst := none, op := _, type := _, pos := _, after := _, guard := none }) rfl (fun KK hKK => ?_) AllReadyH.nil)
    have HNM : Hid (n = (l.set i (hAt l j)).length) := by show _ = _; rw [List.length_set]; exact HNL.out
    have k9 : wm.cell? ⟨g, j, none⟩ = some (.int .i64 ((hAt (l.set i (hAt l j)) j : Nat) : Int)) := rowN_cell HNM.out (by have := HH1.out.row; rw [← HNM.out] at this; exact this) (by have := HNM.out; omega)
    have f9 : wm.frozen? ⟨g, j, none⟩ = false := rowN_frz HNM.out HH1.out.row j
    have HH2 := Hid.intro (HH1.out.set HNM.out (j := j) (by have := HNM.out; omega) (hAt l i))
    have hg2 : wm.grownBy (wm.setCell ⟨g, j, none⟩ (.int .i64 ((hAt l i : Nat) : Int))) (some g) := ⟨rfl, rfl, rfl, by simp, fun k _ hne => Below.heap_setCell _ _ _ _ (fun e => hne (by rw [e]))⟩
    go_simp
    refine hKK.out _ _ HH2.out.blk (fun hS => ?_)
    clear hKK KK k9 f9 HH1
    generalize wm.setCell ⟨g, j, none⟩ (.int .i64 ((hAt l i : Nat) : Int)) = wf at *
    refine wpAnyH_done (by kernel_rfl) ?_ _
    clear hS
    go_wp2_with fail
    go_ret
    refine ⟨true, rfl, ⟨fun _ => by first | omega | (rw [HCV.out]; omega), fun _ => rfl⟩, ?_, ?_⟩
    · rw [if_pos rfl]
      exact HH2.out
    · have h3 : w.grownBy wn (some g) := ⟨hB3.os, hB3.tape, hB3.output, hB3.size, fun k hk _ => hB3.block k hk⟩
      exact (h3.trans hg1).trans hg2
  · skip
    have k9 : wn.cell? ⟨g, i, none⟩ = some (.int .i64 ((hAt l i : Nat) : Int)) := rowN_cell HNL.out (by have := HH.out.row; rw [← HNL.out] at this; exact this) (by have := HNL.out; omega)
    go_simp
    refine hKK.out _ _ hS (fun hS => ?_)
    clear hKK KK k9
    refine wpAnyH_ready (rs := [16]) (by kernel_rfl) (by simp) (AllReadyH.cons (o := { dst := some 43, op := _, type := _, pos := _, after := _, guard := none }) rfl (fun KK hKK => ?_) AllReadyH.nil)
    have k9 : wn.cell? ⟨g, j, none⟩ = some (.int .i64 ((hAt l j : Nat) : Int)) := rowN_cell HNL.out (by have := HH.out.row; rw [← HNL.out] at this; exact this) (by have := HNL.out; omega)
    go_simp
    refine hKK.out _ _ hS (fun hS => ?_)
    clear hKK KK k9
    refine wpAnyH_take (i := 24) (oi := { dst := some 51, op := _, type := _, pos := _, after := _, guard := none }) (v := .pointer (some ⟨g, i, none⟩)) rfl (by kernel_rfl) (by kernel_rfl) (by kernel_rfl) (fun _ _ _ h => h) (Or.inl ⟨by rfl, ?_⟩) hS ?_
    · intro wy hy
      clear hy
      (go_simp; try omega)
    simp only [Act.put, List.setIfInBounds_toArray, List.set_cons_zero, List.set_cons_succ]
    refine wpAnyH_ready (rs := [25]) (by kernel_rfl) (by simp) (AllReadyH.cons (o := { dst := none, op := _, type := _, pos := _, after := _, guard := none }) rfl (fun KK hKK => ?_) AllReadyH.nil)
    have k9 : wn.cell? ⟨g, i, none⟩ = some (.int .i64 ((hAt l i : Nat) : Int)) := rowN_cell HNL.out (by have := HH.out.row; rw [← HNL.out] at this; exact this) (by have := HNL.out; omega)
    have f9 : wn.frozen? ⟨g, i, none⟩ = false := rowN_frz HNL.out HH.out.row i
    have HH1 := Hid.intro (HH.out.set HNL.out (j := i) (by have := HNL.out; omega) (hAt l j))
    have hg1 : wn.grownBy (wn.setCell ⟨g, i, none⟩ (.int .i64 ((hAt l j : Nat) : Int))) (some g) := ⟨rfl, rfl, rfl, by simp, fun k _ hne => Below.heap_setCell _ _ _ _ (fun e => hne (by rw [e]))⟩
    go_simp
    refine hKK.out _ _ HH1.out.blk (fun hS => ?_)
    clear hKK KK k9 f9 HH
    generalize wn.setCell ⟨g, i, none⟩ (.int .i64 ((hAt l j : Nat) : Int)) = wm at *
    refine wpAnyH_take (i := 26) (oi := { dst := some 52, op := _, type := _, pos := _, after := _, guard := none }) (v := .pointer (some ⟨g, j, none⟩)) rfl (by kernel_rfl) (by kernel_rfl) (by kernel_rfl) (fun _ _ _ h => h) (Or.inl ⟨by rfl, ?_⟩) hS ?_
    · intro wy hy
      clear hy
      (go_simp; try omega)
    simp only [Act.put, List.setIfInBounds_toArray, List.set_cons_zero, List.set_cons_succ]
    refine wpAnyH_ready (rs := [27]) (by kernel_rfl) (by simp) (AllReadyH.cons (o := { dst := none, op := _, type := _, pos := _, after := _, guard := none }) rfl (fun KK hKK => ?_) AllReadyH.nil)
    have HNM : Hid (n = (l.set i (hAt l j)).length) := by show _ = _; rw [List.length_set]; exact HNL.out
    have k9 : wm.cell? ⟨g, j, none⟩ = some (.int .i64 ((hAt (l.set i (hAt l j)) j : Nat) : Int)) := rowN_cell HNM.out (by have := HH1.out.row; rw [← HNM.out] at this; exact this) (by have := HNM.out; omega)
    have f9 : wm.frozen? ⟨g, j, none⟩ = false := rowN_frz HNM.out HH1.out.row j
    have HH2 := Hid.intro (HH1.out.set HNM.out (j := j) (by have := HNM.out; omega) (hAt l i))
    have hg2 : wm.grownBy (wm.setCell ⟨g, j, none⟩ (.int .i64 ((hAt l i : Nat) : Int))) (some g) := ⟨rfl, rfl, rfl, by simp, fun k _ hne => Below.heap_setCell _ _ _ _ (fun e => hne (by rw [e]))⟩
    go_simp
    refine hKK.out _ _ HH2.out.blk (fun hS => ?_)
    clear hKK KK k9 f9 HH1
    generalize wm.setCell ⟨g, j, none⟩ (.int .i64 ((hAt l i : Nat) : Int)) = wf at *
    refine wpAnyH_done (by kernel_rfl) ?_ _
    clear hS
    go_wp2_with fail
    go_ret
    refine ⟨true, rfl, ⟨fun _ => by first | omega | (rw [HCV.out]; omega), fun _ => rfl⟩, ?_, ?_⟩
    · rw [if_pos rfl]
      exact HH2.out
    · have h3 : w.grownBy wn (some g) := ⟨hB3.os, hB3.tape, hB3.output, hB3.size, fun k hk _ => hB3.block k hk⟩
      exact (h3.trans hg1).trans hg2

end Go.Proofs.YtggbhggnemlpnaaGreat
