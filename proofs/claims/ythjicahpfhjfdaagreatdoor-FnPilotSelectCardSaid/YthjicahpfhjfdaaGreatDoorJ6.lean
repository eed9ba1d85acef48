/-
  Several texts in one: Cln, Rdn.
-/
import Derived.Test.YthjicahpfhjfdaaGreatDoorProg
import Derived.Shelf.Strconv.Clone
import Derived.KernelRfl
import Derived.WalkKit
import Derived.Test.YthjicahpfhjfdaaGreatDoorRdr
namespace Go.Proofs.YthjicahpfhjfdaaGreatDoor
open Go.RowKit

/-- the numbers of this program -/
def rhoC : Go.Shelf.Ren := {
  f := fun n => if n = 316 then 83 else 0,
  t := fun n => if n = 3 then 3 else if n = 4 then 4 else if n = 5 then 5 else if n = 9 then 9 else if n = 37 then 22 else if n = 127 then 93 else 0,
  g := fun n => n }

/-- it lies there as function 83 -/
theorem laysC : LaysM.n316 Tryz.prog rhoC := {
  mixed := by kernel_rfl,
  f316 := by kernel_rfl,
  t0 := by kernel_rfl,
  a0 := fun w => by kernel_rfl,
  z0 := fun w => by kernel_rfl,
  v0 := fun w => by kernel_rfl,
  t3 := by kernel_rfl,
  a3 := fun w => by kernel_rfl,
  z3 := fun w => by kernel_rfl,
  v3 := fun w => by kernel_rfl,
  t4 := by kernel_rfl,
  a4 := fun w => by kernel_rfl,
  z4 := fun w => by kernel_rfl,
  v4 := fun w => by kernel_rfl,
  t9 := by kernel_rfl,
  a9 := fun w => by kernel_rfl,
  z9 := fun w => by kernel_rfl,
  v9 := fun w => by kernel_rfl,
  t37 := by kernel_rfl,
  a37 := fun w => by kernel_rfl,
  z37 := fun w => by kernel_rfl,
  v37 := fun w => by kernel_rfl,
  t127 := by kernel_rfl,
  a127 := fun w => by kernel_rfl,
  z127 := fun w => by kernel_rfl,
  v127 := fun w => by kernel_rfl,
  t5 := by kernel_rfl,
  a5 := fun w => by kernel_rfl,
  z5 := fun w => by kernel_rfl,
  v5 := fun w => by kernel_rfl,
  i0 := by kernel_rfl,
  i3 := by kernel_rfl,
  i4 := by kernel_rfl,
  i5 := by kernel_rfl,
  i9 := by kernel_rfl,
  i37 := by kernel_rfl,
  i127 := by kernel_rfl }

theorem clone_any (s : ByteArray) (w : World) (hs : s.size ≤ 200) :
    Calls Tryz.prog 82 #[.string s] w fun e w' => e = .returned (.string s) ∧ Below w.heap.size w w' := by
  go_enter Tryz.func82, Tryz.ntmps82
  go_wp2_with fail
  refine (Any.stringslite_Clone laysC s w (by omega)).mono ?_
  rintro e w1 ⟨rfl, hb⟩
  go_wp2_with fail
  go_ret
  exact ⟨rfl, hb⟩

end Go.Proofs.YthjicahpfhjfdaaGreatDoor

namespace Go.Proofs.YthjicahpfhjfdaaGreatDoor
open Go.RowKit

/-- a fault as an error -/
def fltV (q : Int) : Value := .iface 65 (.agg #[.int .i64 2, .int .i64 q])

set_option maxHeartbeats 400000 in
theorem fault_any (p : Nat) (t : ByteArray) (i : Nat) (w : World) (hr : RdAt w p t i) :
    Calls Tryz.prog 38 #[.pointer (some ⟨p, 0, none⟩)] w fun e w' => e = .returned (fltV i) ∧ But p w.heap.size w w' := by
  obtain ⟨r0, r1, r2⟩ := hr
  go_enter Tryz.func38, Tryz.ntmps38
  go_wp2_with fail
  go_ret
  exact ⟨rfl, But.refl _ _ _⟩

/-- a piece of a text -/
def cut (t : ByteArray) (a b : Nat) : List UInt8 := (t.data.toList.drop a).take (b - a)

theorem cut_nil (t : ByteArray) (a : Nat) : cut t a a = [] := by simp [cut]

theorem cut_snoc {t : ByteArray} {a b : Nat} (h : a ≤ b) (hb : b < t.size) : cut t a (b + 1) = cut t a b ++ [t[b]] := by
  unfold cut
  rw [show b + 1 - a = (b - a) + 1 by omega, List.take_succ_eq_append_getElem (by simp; have : t.data.toList.length = t.size := rfl; omega)]
  congr 2
  rw [List.getElem_drop]
  simp [ByteArray.getElem_eq_getElem_data, show a + (b - a) = b by omega]

theorem cut_join {t : ByteArray} {a b : Nat} (h : a ≤ b) : t.data.toList.drop a = cut t a b ++ t.data.toList.drop b := by
  unfold cut
  conv => lhs; rw [← List.take_append_drop (b - a) (t.data.toList.drop a)]
  rw [List.drop_drop, show a + (b - a) = b by omega]

theorem cut_bts {t : ByteArray} {a b : Nat} : t.extract a b = P.bts (cut t a b) := by
  unfold P.bts cut
  apply ByteArray.ext
  rw [ByteArray.data_extract]
  apply Array.toList_inj.1
  rw [Array.toList_extract, List.extract_eq_take_drop]

/-- no letter stands at a place -/
theorem stops_at {t : ByteArray} {k : Nat} (h : ∀ hk : k < t.size, P.letter t[k] = false) : P.stops (t.data.toList.drop k) := by
  by_cases hk : k < t.size
  · rw [drop_at hk]; exact h hk
  · rw [List.drop_eq_nil_of_le (by simpa using Nat.le_of_not_lt hk)]; trivial

theorem nm_run {t : ByteArray} {a b : Nat} (hab : a < b) (hb : b ≤ t.size) (hl : ∀ c ∈ cut t a b, P.letter c = true) (hs : ∀ hk : b < t.size, P.letter t[b] = false) : toksAt t a = cut t a b :: toksAt t b := by
  unfold toksAt
  rw [cut_join (Nat.le_of_lt hab)]
  refine P.toks_run _ _ ?_ hl (stops_at hs)
  intro e
  have : (cut t a b).length = b - a := by
    unfold cut
    rw [List.length_take, List.length_drop]
    have : t.data.toList.length = t.size := rfl
    omega
  rw [e] at this
  simp at this
  omega

theorem nm_sign {t : ByteArray} {a : Nat} (ha : a < t.size) (hb : t[a] ≠ 32) (hl : P.letter t[a] = false) : P.nm (toksAt t a) = none := by
  rw [toksAt_sign ha hb hl]
  simp [P.nm, P.nmB, hl]

theorem nm_yes {t : ByteArray} {a b : Nat} (hab : a ≤ b) (hb : b ≤ t.size) (hl : ∀ c ∈ cut t a b, P.letter c = true) (hs : ∀ hk : b < t.size, P.letter t[b] = false) (hok : P.nameOk (t.extract a b) = true) : P.nm (toksAt t a) = some (cut t a b, toksAt t b) := by
  rw [cut_bts, P.nmB_eq] at hok
  have hne : a ≠ b := by
    intro e
    subst e
    rw [cut_nil] at hok
    cases hok
  rw [nm_run (by omega) hb hl hs]
  simp [P.nm, hok]

theorem nm_no {t : ByteArray} {a b : Nat} (hab : a ≤ b) (hb : b ≤ t.size) (ha : a < t.size) (hso : t[a] ≠ 32) (hl : ∀ c ∈ cut t a b, P.letter c = true) (hs : ∀ hk : b < t.size, P.letter t[b] = false) (hok : P.nameOk (t.extract a b) = false) : P.nm (toksAt t a) = none := by
  rw [cut_bts, P.nmB_eq] at hok
  by_cases e : a = b
  · subst e
    exact nm_sign ha hso (hs ha)
  · rw [nm_run (by omega) hb hl hs]
    simp [P.nm, hok]

theorem extract_size (t : ByteArray) (a b : Nat) (h : t.size ≤ 200) : (t.extract a b).size ≤ 200 := by
  rw [ByteArray.size_extract]; omega

set_option maxHeartbeats 2000000 in
theorem name_any (p : Nat) (t : ByteArray) (i : Nat) (w : World) (hr : RdAt w p t i) (hi : i ≤ t.size) (ht : t.size ≤ 200) :
    Calls Tryz.prog 79 #[.pointer (some ⟨p, 0, none⟩)] w fun e w' =>
      (∃ n k, P.nm (toksAt t i) = some (n, toksAt t k) ∧ e = .returned (.tuple #[.string (P.bts n), .nilIface]) ∧ k ≤ t.size ∧ RdAt w' p t k ∧ But p w.heap.size w w') ∨
      (P.nm (toksAt t i) = none ∧ ∃ q, e = .returned (.tuple #[.string ⟨#[]⟩, fltV q]) ∧ But p w.heap.size w w') := by
  have HR : Hid (RdAt w p t i) := hr
  clear hr
  go_enter Tryz.func79, Tryz.ntmps79
  go_wp2_with fail
  refine (ended_any p t i _ HR.out hi ht).mono ?_
  rintro e w1 ⟨k0, rfl, h1, h2, h3, h4, h5, h6⟩
  have H3 : Hid (toksAt t k0 = toksAt t i) := h3
  have H4 : Hid (Solid t k0) := h4
  have H5 : Hid (RdAt w1 p t k0) := h5
  have H6 : Hid (But p w.heap.size w w1) := h6
  clear h3 h4 h5 h6
  by_cases hk : k0 = t.size
  · rw [decide_eq_true hk]
    have HT : Hid (P.nm (toksAt t i) = none) := by rw [← H3.out, toksAt_end (by omega)]; rfl
    go_wp2_with fail
    refine (fault_any p t k0 _ H5.out).mono ?_
    rintro e w2 ⟨rfl, hb2⟩
    go_wp2_with fail
    go_ret2
    exact .inr ⟨HT.out, _, rfl, H6.out.trans (hb2.mono H6.out.size)⟩
  · rw [decide_eq_false hk]
    have hlt0 : k0 < t.size := by omega
    obtain ⟨r0, r1, r2⟩ := H5.out
    go_wp2_with fail
    clear r0 r1 r2
    go_loopw [] (fun wr => ∃ k, k0 ≤ k ∧ k ≤ t.size ∧ Hid (∀ c ∈ cut t k0 k, P.letter c = true) ∧ Hid (RdAt wr p t k) ∧ Hid (But p w.heap.size w wr)) (fun wr => leftOf t p wr)
    case atStart => exact ⟨k0, Nat.le_refl _, h2, (by rw [cut_nil]; exact (fun c h => by simp at h)), H5, H6⟩
    case round =>
      obtain ⟨k, g1, g2, g3, g4, g5⟩ := hrel
      obtain ⟨r0, r1, r2⟩ := g4.out
      by_cases hlt : k < t.size
      · have i0 : (0 : Int) ≤ (k : Int) := by omega
        have i1 : (k : Int) < (t.size : Int) := by omega
        have k0' := cell_regrown r0
        have k1' := cell_regrown r1
        cases hL : P.letter t[k] with
        | true =>
          have cE : ∀ d os, Calls Tryz.prog 67 #[.int .u8 t[k].toNat] (Sort.grow (redrawn wr d) os) fun e w'' => e = .returned (.bool true) ∧ ∃ p : Regrown, w'' = Sort.grow (redrawn wr p.d) p.os := fun d os => (inName_any t[k] _).mono (by rintro e w' ⟨rfl, rfl⟩; exact ⟨by rw [hL], ⟨d, os⟩, rfl⟩)
          have HC : Hid (∀ c ∈ cut t k0 (k + 1), P.letter c = true) := by
            show ∀ c ∈ _, _
            rw [cut_snoc g1 hlt]
            intro c hc
            rcases List.mem_append.1 hc with hc | hc
            · exact g3.out c hc
            · simp at hc; rw [hc]; exact hL
          clear hL r0 r1 r2
          go_wp2_with fail
          refine wp_region_quiet_below (by kernel_rfl) (by kernel_rfl) ?_
          repeat (quiet_step (first | exact cE _ _))
          refine wpQuiet_nil ?_
          intro wq hw'
          obtain ⟨⟨dq, osq⟩, hw''⟩ := hw'
          have hbq : Below wr.heap.size wr wq := by
            simp only [] at hw''
            rw [hw'']; exact below_regrown wr dq osq
          have G4 : Hid (RdAt wq p t k) := g4.out.below hbq g4.out.lt
          have G5 : Hid (But p w.heap.size w wq) := g5.out.trans ((But.of_below hbq).mono g5.out.size)
          clear hw'' hbq cE k0' k1'
          obtain ⟨s0, s1, s2⟩ := G4.out
          go_wp2_with fail
          go_roundw
          case rel => exact ⟨k + 1, by omega, by omega, HC, G4.out.succ, G5.out.set _ _⟩
          case measure => rw [leftOf_eq G4.out.succ, leftOf_eq g4.out]; omega
        | false =>
          have cE : ∀ d os, Calls Tryz.prog 67 #[.int .u8 t[k].toNat] (Sort.grow (redrawn wr d) os) fun e w'' => e = .returned (.bool false) ∧ ∃ p : Regrown, w'' = Sort.grow (redrawn wr p.d) p.os := fun d os => (inName_any t[k] _).mono (by rintro e w' ⟨rfl, rfl⟩; exact ⟨by rw [hL], ⟨d, os⟩, rfl⟩)
          have HST : Hid (∀ hk : k < t.size, P.letter t[k] = false) := fun _ => hL
          clear hL r0 r1 r2
          go_wp2_with fail
          refine wp_region_quiet_below (by kernel_rfl) (by kernel_rfl) ?_
          repeat (quiet_step (first | exact cE _ _))
          refine wpQuiet_nil ?_
          intro wq hw'
          obtain ⟨⟨dq, osq⟩, hw''⟩ := hw'
          have hbq : Below wr.heap.size wr wq := by
            simp only [] at hw''
            rw [hw'']; exact below_regrown wr dq osq
          have G4 : Hid (RdAt wq p t k) := g4.out.below hbq g4.out.lt
          have G5 : Hid (But p w.heap.size w wq) := g5.out.trans ((But.of_below hbq).mono g5.out.size)
          clear hw'' hbq cE k0' k1'
          have HS : Hid (∀ hk : k < t.size, P.letter t[k] = false) := HST.out
          obtain ⟨s0, s1, s2⟩ := G4.out
          have j0 : (0 : Int) ≤ (k0 : Int) := by omega
          have j1 : (k0 : Int) ≤ (k : Int) := by omega
          have j2 : (k : Int) ≤ (t.size : Int) := by omega
          have HZ : Hid ((t.extract k0 k).size ≤ maxLen) := by show _ ≤ _; have := extract_size t k0 k ht; unfold maxLen; omega
          go_wp2_with fail
          go_region
          go_wp2_with fail
          refine (isName_any _ _ HZ.out).mono ?_
          rintro e w' ⟨rfl, rfl⟩
          cases hok : P.nameOk (t.extract k0 k) with
          | true =>
            have HT : Hid (P.nm (toksAt t i) = some (cut t k0 k, toksAt t k)) := by rw [← H3.out]; exact nm_yes g1 g2 g3.out HS.out hok
            clear hok
            go_wp2_with fail
            refine (clone_any _ _ (extract_size t k0 k ht)).mono ?_
            rintro e w8 ⟨rfl, hb8⟩
            have G8 : Hid (RdAt w8 p t k) := G4.out.drew.below hb8 G4.out.lt
            have HB8 : Hid (But p w.heap.size w w8) := G5.out.drew.trans ((But.of_below hb8).mono G5.out.size)
            clear hb8
            go_wp2_with fail
            go_ret2
            exact .inl ⟨_, k, HT.out, by rw [← cut_bts]; rfl, g2, G8.out, HB8.out⟩
          | false =>
            have HT : Hid (P.nm (toksAt t i) = none) := by rw [← H3.out]; exact nm_no g1 g2 hlt0 (H4.out hlt0) g3.out HS.out hok
            clear hok
            go_wp2_with fail
            refine (fault_any p t k _ G4.out.drew).mono ?_
            rintro e w8 ⟨rfl, hb8⟩
            have HB8 : Hid (But p w.heap.size w w8) := G5.out.drew.trans (hb8.mono G5.out.size)
            clear hb8
            go_wp2_with fail
            go_ret2
            exact .inr ⟨HT.out, _, rfl, HB8.out⟩
      · have i1 : ¬ (k : Int) < (t.size : Int) := by omega
        have HST : Hid (∀ hk : k < t.size, P.letter t[k] = false) := fun h => absurd h hlt
        go_wp2_with fail
        go_region
        have G4 : Hid (RdAt wr.drew p t k) := g4.out.drew
        have G5 : Hid (But p w.heap.size w wr.drew) := g5.out.drew
        generalize wr.drew = wq at *
        have HS : Hid (∀ hk : k < t.size, P.letter t[k] = false) := HST.out
        obtain ⟨s0, s1, s2⟩ := G4.out
        have j0 : (0 : Int) ≤ (k0 : Int) := by omega
        have j1 : (k0 : Int) ≤ (k : Int) := by omega
        have j2 : (k : Int) ≤ (t.size : Int) := by omega
        have HZ : Hid ((t.extract k0 k).size ≤ maxLen) := by show _ ≤ _; have := extract_size t k0 k ht; unfold maxLen; omega
        go_wp2_with fail
        go_region
        go_wp2_with fail
        refine (isName_any _ _ HZ.out).mono ?_
        rintro e w' ⟨rfl, rfl⟩
        cases hok : P.nameOk (t.extract k0 k) with
        | true =>
          have HT : Hid (P.nm (toksAt t i) = some (cut t k0 k, toksAt t k)) := by rw [← H3.out]; exact nm_yes g1 g2 g3.out HS.out hok
          clear hok
          go_wp2_with fail
          refine (clone_any _ _ (extract_size t k0 k ht)).mono ?_
          rintro e w8 ⟨rfl, hb8⟩
          have G8 : Hid (RdAt w8 p t k) := G4.out.drew.below hb8 G4.out.lt
          have HB8 : Hid (But p w.heap.size w w8) := G5.out.drew.trans ((But.of_below hb8).mono G5.out.size)
          clear hb8
          go_wp2_with fail
          go_ret2
          exact .inl ⟨_, k, HT.out, by rw [← cut_bts]; rfl, g2, G8.out, HB8.out⟩
        | false =>
          have HT : Hid (P.nm (toksAt t i) = none) := by rw [← H3.out]; exact nm_no g1 g2 hlt0 (H4.out hlt0) g3.out HS.out hok
          clear hok
          go_wp2_with fail
          refine (fault_any p t k _ G4.out.drew).mono ?_
          rintro e w8 ⟨rfl, hb8⟩
          have HB8 : Hid (But p w.heap.size w w8) := G5.out.drew.trans (hb8.mono G5.out.size)
          clear hb8
          go_wp2_with fail
          go_ret2
          exact .inr ⟨HT.out, _, rfl, HB8.out⟩

end Go.Proofs.YthjicahpfhjfdaaGreatDoor
