/-
  A text bent at one place (made by mkslh.py).
-/
import Derived.Test.YthjicahpfhjfdaaGreatDoorSlG
import Derived.Deep.RegionWith
import Derived.Laws.BytesString
import Derived.Laws.BytesArg
namespace Go.Proofs.YthjicahpfhjfdaaGreatDoor
open Go.RowKit

theorem ext_le (s : ByteArray) (a b : Nat) : (s.extract a b).size ≤ s.size := by rw [ByteArray.size_extract]; omega

/-- a text of one byte -/
theorem conv1 (W : World) (X : Int) : (convert 22 9 (.slice (some ⟨W.heap.size, 0, none⟩) 1 1)).run Tryz.prog (W.alloc (.cells #[.int .u8 X] 5)) = .ok (.string (strOfNums [X])) (W.alloc (.cells #[.int .u8 X] 5)) :=
  run_convert_bytes_arg (P := Tryz.prog) _ 22 5 Tryz.underlying22 Tryz.underlying5 W.heap.size 0 1 1 [X] rfl (fun i hi => by
    obtain rfl : i = 0 := by omega
    simp) 9 Tryz.underlying9
theorem size1 (X : Int) : (strOfNums [X]).size = 1 := rfl

/-- a text drawn -/
def DrT (p n : Nat) (W w' : World) (e : Ending) : Prop := ∃ t : ByteArray, e = .returned (.string t) ∧ t.size ≤ 3000 ∧ RdL p n w' ∧ Bt p W.heap.size W w'

set_option maxHeartbeats 8000000 in
set_option maxRecDepth 100000 in
theorem bend_any (p n : Nat) (s : ByteArray) (w : World) (hR : RdL p n w) (hs : s.size ≤ 1000) (hn : n ≤ 800000) :
    Calls Tryz.prog 26 #[.pointer (some ⟨p, 0, none⟩), .string s] w fun e w' => DrT p (n + 3) w w' e := by
  have HR := Hid.intro hR
  have hpl := hR.lt
  clear hR
  go_enter Tryz.func26, Tryz.ntmps26
  go_wp2_with fail
  refine (pickL p n 256 _ HR.out (by omega) (by omega) (by omega)).mono ?_
  rintro e w1 ⟨v, rfl, hv, hr, hb⟩
  replace HR := Hid.intro hr
  have HB := Hid.intro hb
  clear hr hb
  obtain ⟨i, hi⟩ : ∃ i : Nat, i = v * (s.size + 1) / 256 := ⟨_, rfl⟩
  have hil : i ≤ s.size := by
    have h1 : v * (s.size + 1) ≤ 255 * (s.size + 1) := Nat.mul_le_mul_right _ (by omega)
    omega
  have hvi : (v : Int) * ((s.size : Int) + 1) / 256 = (i : Int) := by
    rw [hi, Int.natCast_ediv, Int.natCast_mul, Int.natCast_add]
    rfl
  have hvb : (v : Int) * ((s.size : Int) + 1) ≤ 1000000 := by
    have h1 : v * (s.size + 1) ≤ 255 * 1001 := Nat.mul_le_mul (by omega) (by omega)
    have h2 : ((v * (s.size + 1) : Nat) : Int) = (v : Int) * ((s.size : Int) + 1) := by rw [Int.natCast_mul, Int.natCast_add]; rfl
    omega
  have hv0 : (0 : Int) ≤ (v : Int) * ((s.size : Int) + 1) := by
    have h2 : ((v * (s.size + 1) : Nat) : Int) = (v : Int) * ((s.size : Int) + 1) := by rw [Int.natCast_mul, Int.natCast_add]; rfl
    omega
  clear hi
  go_wp2_with fail
  rw [hvi]
  clear hvi hvb hv0 hv
  refine (pickL p (n + 1) 5 _ HR.out (by omega) (by omega) (by omega)).mono ?_
  rintro e w2 ⟨k, rfl, hk, hr, hb⟩
  replace HR := Hid.intro hr
  replace HB := Hid.intro (HB.out.trans (hb.mono HB.out.size))
  clear hr hb
  have hszb : w.heap.size ≤ w2.heap.size := HB.out.size
  have i0 : (0 : Int) ≤ (i : Int) := by omega
  have i1 : (i : Int) ≤ (s.size : Int) := by omega
  rcases (by omega : k = 0 ∨ k = 1 ∨ k = 2 ∨ k = 3 ∨ k = 4) with rfl | rfl | rfl | rfl | rfl
  · skip
    go_wp2_with fail
    go_ret
    exact ⟨_, rfl, by have := ext_le s 0 i; omega, HR.out.mono (by omega), HB.out⟩
  · skip
    go_upto_region 6 with fail
    refine wp_region_held_drew (S := fun _ => True) (by kernel_rfl) trivial (fun hS => ?_)
    replace HR := Hid.intro HR.out.drew
    replace HB := Hid.intro HB.out.drew
    have hs1 : w.heap.size ≤ w2.drew.heap.size := hszb
    generalize w2.drew = wn at *
    refine wpAnyH_take (i := 0) (oi := { dst := some 22, op := _, type := _, pos := _, after := _, guard := none }) (v := .string s) rfl (by kernel_rfl) (by kernel_rfl) (by kernel_rfl) (fun _ _ _ h => h) (Or.inl ⟨by rfl, ?_⟩) hS ?_
    · intro wy hy
      clear hy
      go_simp
    simp only [Act.put, List.setIfInBounds_toArray, List.set_cons_zero, List.set_cons_succ]
    refine wpAnyH_take (i := 1) (oi := { dst := some 23, op := _, type := _, pos := _, after := _, guard := none }) (v := .int .i64 (i : Int)) rfl (by kernel_rfl) (by kernel_rfl) (by kernel_rfl) (fun _ _ _ h => h) (Or.inl ⟨by rfl, ?_⟩) hS ?_
    · intro wy hy
      clear hy
      go_simp
    simp only [Act.put, List.setIfInBounds_toArray, List.set_cons_zero, List.set_cons_succ]
    refine wpAnyH_take (i := 2) (oi := { dst := some 24, op := _, type := _, pos := _, after := _, guard := none }) (v := .string (s.extract 0 i)) rfl (by kernel_rfl) (by kernel_rfl) (by kernel_rfl) (fun _ _ _ h => h) (Or.inl ⟨by rfl, ?_⟩) hS ?_
    · intro wy hy
      clear hy
      first | (go_simp; done) | (go_simp; omega) | (go_simp; intro hh; omega)
    simp only [Act.put, List.setIfInBounds_toArray, List.set_cons_zero, List.set_cons_succ]
    refine wpAnyH_take (i := 4) (oi := { dst := some 26, op := _, type := _, pos := _, after := _, guard := none }) (v := .pointer (some ⟨p, 0, none⟩)) rfl (by kernel_rfl) (by kernel_rfl) (by kernel_rfl) (fun _ _ _ h => h) (Or.inl ⟨by rfl, ?_⟩) hS ?_
    · intro wy hy
      clear hy
      go_simp
    simp only [Act.put, List.setIfInBounds_toArray, List.set_cons_zero, List.set_cons_succ]
    refine wpAnyH_take (i := 9) (oi := { dst := some 31, op := _, type := _, pos := _, after := _, guard := none }) (v := .string s) rfl (by kernel_rfl) (by kernel_rfl) (by kernel_rfl) (fun _ _ _ h => h) (Or.inl ⟨by rfl, ?_⟩) hS ?_
    · intro wy hy
      clear hy
      go_simp
    simp only [Act.put, List.setIfInBounds_toArray, List.set_cons_zero, List.set_cons_succ]
    refine wpAnyH_take (i := 10) (oi := { dst := some 32, op := _, type := _, pos := _, after := _, guard := none }) (v := .int .i64 (i : Int)) rfl (by kernel_rfl) (by kernel_rfl) (by kernel_rfl) (fun _ _ _ h => h) (Or.inl ⟨by rfl, ?_⟩) hS ?_
    · intro wy hy
      clear hy
      go_simp
    simp only [Act.put, List.setIfInBounds_toArray, List.set_cons_zero, List.set_cons_succ]
    refine wpAnyH_take (i := 11) (oi := { dst := some 33, op := _, type := _, pos := _, after := _, guard := none }) (v := .string (s.extract i s.size)) rfl (by kernel_rfl) (by kernel_rfl) (by kernel_rfl) (fun _ _ _ h => h) (Or.inl ⟨by rfl, ?_⟩) hS ?_
    · intro wy hy
      clear hy
      first | (go_simp; done) | (go_simp; omega) | (go_simp; intro hh; omega)
    simp only [Act.put, List.setIfInBounds_toArray, List.set_cons_zero, List.set_cons_succ]
    refine wpAnyH_ready (rs := [3, 5]) (by kernel_rfl) (by simp) (AllReadyH.cons (o := { dst := some 25, op := _, type := _, pos := _, after := _, guard := none }) rfl (fun KK hKK => ?_) (AllReadyH.cons (o := { dst := some 27, op := _, type := _, pos := _, after := _, guard := none }) rfl (fun KK hKK => ?_) AllReadyH.nil))
    · skip
      go_simp
      have HA : Hid (Blk wn.heap.size #[.string ⟨#[32]⟩, .string ⟨#[124]⟩, .string ⟨#[38]⟩, .string ⟨#[33]⟩, .string ⟨#[40]⟩, .string ⟨#[41]⟩, .string ⟨#[61]⟩, .string ⟨#[120]⟩, .string ⟨#[65]⟩] 9 (wn.alloc (Obj.cells #[.string ⟨#[32]⟩, .string ⟨#[124]⟩, .string ⟨#[38]⟩, .string ⟨#[33]⟩, .string ⟨#[40]⟩, .string ⟨#[41]⟩, .string ⟨#[61]⟩, .string ⟨#[120]⟩, .string ⟨#[65]⟩] 9))) := Blk.alloc _ _ _
      have hbw : Below wn.heap.size wn (wn.alloc (Obj.cells #[.string ⟨#[32]⟩, .string ⟨#[124]⟩, .string ⟨#[38]⟩, .string ⟨#[33]⟩, .string ⟨#[40]⟩, .string ⟨#[41]⟩, .string ⟨#[61]⟩, .string ⟨#[120]⟩, .string ⟨#[65]⟩] 9)) := (Below.refl _ _).alloc (Nat.le_refl _) _
      have hgA : w.heap.size ≤ wn.heap.size := hs1
      replace HB := Hid.intro (HB.out.trans ((Bt.of_below hbw).mono hs1))
      replace hs1 : w.heap.size ≤ (wn.alloc (Obj.cells #[.string ⟨#[32]⟩, .string ⟨#[124]⟩, .string ⟨#[38]⟩, .string ⟨#[33]⟩, .string ⟨#[40]⟩, .string ⟨#[41]⟩, .string ⟨#[61]⟩, .string ⟨#[120]⟩, .string ⟨#[65]⟩] 9)).heap.size := by have := hbw.size; omega
      replace HR := Hid.intro (HR.out.below hbw HR.out.lt)
      clear hbw
      refine hKK.out _ _ trivial (fun hS => ?_)
      clear hKK KK hS
      generalize wn.heap.size = gA at *
      generalize wn.alloc (Obj.cells #[.string ⟨#[32]⟩, .string ⟨#[124]⟩, .string ⟨#[38]⟩, .string ⟨#[33]⟩, .string ⟨#[40]⟩, .string ⟨#[41]⟩, .string ⟨#[61]⟩, .string ⟨#[120]⟩, .string ⟨#[65]⟩] 9) = wn at *
      refine wpAnyH_mono (S' := fun wy => Blk gA #[.string ⟨#[32]⟩, .string ⟨#[124]⟩, .string ⟨#[38]⟩, .string ⟨#[33]⟩, .string ⟨#[40]⟩, .string ⟨#[41]⟩, .string ⟨#[61]⟩, .string ⟨#[120]⟩, .string ⟨#[65]⟩] 9 wy) (fun _ h => trivial) _ _ _ _ ?_
      have hS : (fun wy => Blk gA #[.string ⟨#[32]⟩, .string ⟨#[124]⟩, .string ⟨#[38]⟩, .string ⟨#[33]⟩, .string ⟨#[40]⟩, .string ⟨#[41]⟩, .string ⟨#[61]⟩, .string ⟨#[120]⟩, .string ⟨#[65]⟩] 9 wy) wn := HA.out
      refine wpAnyH_ready (rs := [5]) (by kernel_rfl) (by simp) (AllReadyH.cons (o := { dst := some 27, op := _, type := _, pos := _, after := _, guard := none }) rfl (fun KK hKK => ?_) AllReadyH.nil)
      go_simp
      refine (pickL p (n + 2) 9 _ HR.out (by omega) (by omega) (by omega)).mono ?_
      rintro e wn ⟨u, rfl, hu, hr, hb⟩
      replace HA := Hid.intro (HA.out.bt hb HA.out.lt (by omega))
      replace HB := Hid.intro (HB.out.trans (hb.mono hs1))
      replace hs1 : w.heap.size ≤ wn.heap.size := by have := hb.size; omega
      replace HR := Hid.intro hr
      refine hKK.out _ _ HA.out (fun hS => ?_)
      clear hKK KK hb hr
      obtain ⟨t1, hd1, hz1⟩ := tabS [⟨#[32]⟩, ⟨#[124]⟩, ⟨#[38]⟩, ⟨#[33]⟩, ⟨#[40]⟩, ⟨#[41]⟩, ⟨#[61]⟩, ⟨#[120]⟩, ⟨#[65]⟩] u (by simp; omega) (by decide)
      refine wpAnyH_take (i := 6) (oi := { dst := some 28, op := _, type := _, pos := _, after := _, guard := none }) (v := .pointer (some ⟨gA, u, none⟩)) rfl (by kernel_rfl) (by kernel_rfl) (by kernel_rfl) (fun _ _ _ h => h) (Or.inl ⟨by rfl, ?_⟩) hS ?_
      · intro wy hy
        clear hy
        first | (go_simp; done) | (go_simp; omega) | (go_simp; intro hh; omega)
      simp only [Act.put, List.setIfInBounds_toArray, List.set_cons_zero, List.set_cons_succ]
      refine wpAnyH_take (i := 7) (oi := { dst := some 29, op := _, type := _, pos := _, after := _, guard := none }) (v := .string t1) rfl (by kernel_rfl) (by kernel_rfl) (by kernel_rfl) (fun _ _ _ h => h) (Or.inl ⟨by rfl, ?_⟩) hS ?_
      · intro wy hy
        have h0 := (hy).cell (o := u) (v := .string t1) hd1
        clear hy
        go_simp
      simp only [Act.put, List.setIfInBounds_toArray, List.set_cons_zero, List.set_cons_succ]
      refine wpAnyH_take (i := 8) (oi := { dst := some 30, op := _, type := _, pos := _, after := _, guard := none }) (v := .string (s.extract 0 i ++ t1)) rfl (by kernel_rfl) (by kernel_rfl) (by kernel_rfl) (fun _ _ _ h => h) (Or.inl ⟨by rfl, ?_⟩) hS ?_
      · intro wy hy
        clear hy
        first | (go_simp; done) | (go_simp; omega) | (go_simp; intro hh; omega)
      simp only [Act.put, List.setIfInBounds_toArray, List.set_cons_zero, List.set_cons_succ]
      refine wpAnyH_take (i := 12) (oi := { dst := some 34, op := _, type := _, pos := _, after := _, guard := none }) (v := .string (s.extract 0 i ++ t1 ++ s.extract i s.size)) rfl (by kernel_rfl) (by kernel_rfl) (by kernel_rfl) (fun _ _ _ h => h) (Or.inl ⟨by rfl, ?_⟩) hS ?_
      · intro wy hy
        clear hy
        first | (go_simp; done) | (go_simp; omega) | (go_simp; intro hh; omega)
      simp only [Act.put, List.setIfInBounds_toArray, List.set_cons_zero, List.set_cons_succ]
      refine wpAnyH_take (i := 13) (oi := { dst := some 4, op := _, type := _, pos := _, after := _, guard := none }) (v := .string (s.extract 0 i ++ t1 ++ s.extract i s.size)) rfl (by kernel_rfl) (by kernel_rfl) (by kernel_rfl) (fun _ _ _ h => h) (Or.inl ⟨by rfl, ?_⟩) hS ?_
      · intro wy hy
        clear hy
        go_simp
      simp only [Act.put, List.setIfInBounds_toArray, List.set_cons_zero, List.set_cons_succ]
      refine wpAnyH_done (by kernel_rfl) ?_ _
      clear hS
      go_wp2_with fail
      go_ret
      exact ⟨_, rfl, by have := ext_le s 0 i; have := ext_le s i s.size; rw [ByteArray.size_append, ByteArray.size_append]; omega, HR.out.mono (by omega), HB.out⟩
    · skip
      go_simp
      refine (pickL p (n + 2) 9 _ HR.out (by omega) (by omega) (by omega)).mono ?_
      rintro e wn ⟨u, rfl, hu, hr, hb⟩
      replace HB := Hid.intro (HB.out.trans (hb.mono hs1))
      replace hs1 : w.heap.size ≤ wn.heap.size := by have := hb.size; omega
      replace HR := Hid.intro hr
      refine hKK.out _ _ trivial (fun hS => ?_)
      clear hKK KK hb hr
      refine wpAnyH_ready (rs := [3]) (by kernel_rfl) (by simp) (AllReadyH.cons (o := { dst := some 25, op := _, type := _, pos := _, after := _, guard := none }) rfl (fun KK hKK => ?_) AllReadyH.nil)
      go_simp
      have HA : Hid (Blk wn.heap.size #[.string ⟨#[32]⟩, .string ⟨#[124]⟩, .string ⟨#[38]⟩, .string ⟨#[33]⟩, .string ⟨#[40]⟩, .string ⟨#[41]⟩, .string ⟨#[61]⟩, .string ⟨#[120]⟩, .string ⟨#[65]⟩] 9 (wn.alloc (Obj.cells #[.string ⟨#[32]⟩, .string ⟨#[124]⟩, .string ⟨#[38]⟩, .string ⟨#[33]⟩, .string ⟨#[40]⟩, .string ⟨#[41]⟩, .string ⟨#[61]⟩, .string ⟨#[120]⟩, .string ⟨#[65]⟩] 9))) := Blk.alloc _ _ _
      have hbw : Below wn.heap.size wn (wn.alloc (Obj.cells #[.string ⟨#[32]⟩, .string ⟨#[124]⟩, .string ⟨#[38]⟩, .string ⟨#[33]⟩, .string ⟨#[40]⟩, .string ⟨#[41]⟩, .string ⟨#[61]⟩, .string ⟨#[120]⟩, .string ⟨#[65]⟩] 9)) := (Below.refl _ _).alloc (Nat.le_refl _) _
      have hgA : w.heap.size ≤ wn.heap.size := hs1
      replace HB := Hid.intro (HB.out.trans ((Bt.of_below hbw).mono hs1))
      replace hs1 : w.heap.size ≤ (wn.alloc (Obj.cells #[.string ⟨#[32]⟩, .string ⟨#[124]⟩, .string ⟨#[38]⟩, .string ⟨#[33]⟩, .string ⟨#[40]⟩, .string ⟨#[41]⟩, .string ⟨#[61]⟩, .string ⟨#[120]⟩, .string ⟨#[65]⟩] 9)).heap.size := by have := hbw.size; omega
      replace HR := Hid.intro (HR.out.below hbw HR.out.lt)
      clear hbw
      refine hKK.out _ _ trivial (fun hS => ?_)
      clear hKK KK hS
      generalize wn.heap.size = gA at *
      generalize wn.alloc (Obj.cells #[.string ⟨#[32]⟩, .string ⟨#[124]⟩, .string ⟨#[38]⟩, .string ⟨#[33]⟩, .string ⟨#[40]⟩, .string ⟨#[41]⟩, .string ⟨#[61]⟩, .string ⟨#[120]⟩, .string ⟨#[65]⟩] 9) = wn at *
      refine wpAnyH_mono (S' := fun wy => Blk gA #[.string ⟨#[32]⟩, .string ⟨#[124]⟩, .string ⟨#[38]⟩, .string ⟨#[33]⟩, .string ⟨#[40]⟩, .string ⟨#[41]⟩, .string ⟨#[61]⟩, .string ⟨#[120]⟩, .string ⟨#[65]⟩] 9 wy) (fun _ h => trivial) _ _ _ _ ?_
      have hS : (fun wy => Blk gA #[.string ⟨#[32]⟩, .string ⟨#[124]⟩, .string ⟨#[38]⟩, .string ⟨#[33]⟩, .string ⟨#[40]⟩, .string ⟨#[41]⟩, .string ⟨#[61]⟩, .string ⟨#[120]⟩, .string ⟨#[65]⟩] 9 wy) wn := HA.out
      obtain ⟨t1, hd1, hz1⟩ := tabS [⟨#[32]⟩, ⟨#[124]⟩, ⟨#[38]⟩, ⟨#[33]⟩, ⟨#[40]⟩, ⟨#[41]⟩, ⟨#[61]⟩, ⟨#[120]⟩, ⟨#[65]⟩] u (by simp; omega) (by decide)
      refine wpAnyH_take (i := 6) (oi := { dst := some 28, op := _, type := _, pos := _, after := _, guard := none }) (v := .pointer (some ⟨gA, u, none⟩)) rfl (by kernel_rfl) (by kernel_rfl) (by kernel_rfl) (fun _ _ _ h => h) (Or.inl ⟨by rfl, ?_⟩) hS ?_
      · intro wy hy
        clear hy
        first | (go_simp; done) | (go_simp; omega) | (go_simp; intro hh; omega)
      simp only [Act.put, List.setIfInBounds_toArray, List.set_cons_zero, List.set_cons_succ]
      refine wpAnyH_take (i := 7) (oi := { dst := some 29, op := _, type := _, pos := _, after := _, guard := none }) (v := .string t1) rfl (by kernel_rfl) (by kernel_rfl) (by kernel_rfl) (fun _ _ _ h => h) (Or.inl ⟨by rfl, ?_⟩) hS ?_
      · intro wy hy
        have h0 := (hy).cell (o := u) (v := .string t1) hd1
        clear hy
        go_simp
      simp only [Act.put, List.setIfInBounds_toArray, List.set_cons_zero, List.set_cons_succ]
      refine wpAnyH_take (i := 8) (oi := { dst := some 30, op := _, type := _, pos := _, after := _, guard := none }) (v := .string (s.extract 0 i ++ t1)) rfl (by kernel_rfl) (by kernel_rfl) (by kernel_rfl) (fun _ _ _ h => h) (Or.inl ⟨by rfl, ?_⟩) hS ?_
      · intro wy hy
        clear hy
        first | (go_simp; done) | (go_simp; omega) | (go_simp; intro hh; omega)
      simp only [Act.put, List.setIfInBounds_toArray, List.set_cons_zero, List.set_cons_succ]
      refine wpAnyH_take (i := 12) (oi := { dst := some 34, op := _, type := _, pos := _, after := _, guard := none }) (v := .string (s.extract 0 i ++ t1 ++ s.extract i s.size)) rfl (by kernel_rfl) (by kernel_rfl) (by kernel_rfl) (fun _ _ _ h => h) (Or.inl ⟨by rfl, ?_⟩) hS ?_
      · intro wy hy
        clear hy
        first | (go_simp; done) | (go_simp; omega) | (go_simp; intro hh; omega)
      simp only [Act.put, List.setIfInBounds_toArray, List.set_cons_zero, List.set_cons_succ]
      refine wpAnyH_take (i := 13) (oi := { dst := some 4, op := _, type := _, pos := _, after := _, guard := none }) (v := .string (s.extract 0 i ++ t1 ++ s.extract i s.size)) rfl (by kernel_rfl) (by kernel_rfl) (by kernel_rfl) (fun _ _ _ h => h) (Or.inl ⟨by rfl, ?_⟩) hS ?_
      · intro wy hy
        clear hy
        go_simp
      simp only [Act.put, List.setIfInBounds_toArray, List.set_cons_zero, List.set_cons_succ]
      refine wpAnyH_done (by kernel_rfl) ?_ _
      clear hS
      go_wp2_with fail
      go_ret
      exact ⟨_, rfl, by have := ext_le s 0 i; have := ext_le s i s.size; rw [ByteArray.size_append, ByteArray.size_append]; omega, HR.out.mono (by omega), HB.out⟩
  · skip
    by_cases hlt : i < s.size
    · have i2 : (i : Int) < (s.size : Int) := by omega
      have i3 : (0 : Int) ≤ (i : Int) + 1 := by omega
      have i4 : (i : Int) + 1 ≤ (s.size : Int) := by omega
      go_wp2_with fail
      go_quiet (fail)
      go_wp2_with fail
      go_ret
      exact ⟨_, rfl, by have := ext_le s 0 i; have := ext_le s (i + 1) s.size; rw [ByteArray.size_append]; omega, (HR.out.below (below_drewN (Below.refl w2.heap.size w2) nq) HR.out.lt).mono (by omega), HB.out.drewN nq⟩
    · have i2 : ¬ (i : Int) < (s.size : Int) := by omega
      go_wp2_with fail
      go_ret
      exact ⟨_, rfl, by have := ext_le s i s.size; rw [ByteArray.size_append]; omega, HR.out.mono (by omega), HB.out⟩
  · skip
    by_cases hlt : i < s.size
    · have i2 : (i : Int) < (s.size : Int) := by omega
      have i3 : (0 : Int) ≤ (i : Int) + 1 := by omega
      have i4 : (i : Int) + 1 ≤ (s.size : Int) := by omega
      have kc := fun (W : World) (X : Int) => conv1 W X
      have kz := fun (X : Int) => size1 X
      have h15 : i + 1 ≤ 9223372036854775807 := by omega
      have h20 : i + 1 + (s.size - (i + 1)) ≤ 9223372036854775807 := by omega
      have hwr : IntKind.i64.wrap ((i : Int) + 1) = (i : Int) + 1 := by rw [IntKind.wrap_i64]; omega
      go_upto_region 12 with fail
      go_region_with (go_at_call 16; refine (pickL p (n + 1 + 1) 8 _ HR.out.drew (by omega) (by omega) (by omega)).mono ?_; rintro e w3 ⟨u, rfl, hu, hr, hb⟩)
      all_goals
        go_wp2_with fail
        go_ret
        exact ⟨_, rfl, by have := ext_le s 0 i; have := ext_le s (i + 1) s.size; rw [ByteArray.size_append, ByteArray.size_append, size1]; omega, (hr.below ((Below.refl _ _).alloc (Nat.le_refl _) _) hr.lt).mono (by omega), (HB.out.drew.trans (hb.mono HB.out.size)).trans ((Bt.of_below ((Below.refl _ _).alloc (Nat.le_refl _) _)).mono (Nat.le_trans HB.out.size hb.size))⟩
    · have i2 : ¬ (i : Int) < (s.size : Int) := by omega
      go_wp2_with fail
      go_ret
      exact ⟨_, rfl, by have := ext_le s i s.size; rw [ByteArray.size_append]; omega, HR.out.mono (by omega), HB.out⟩
  · skip
    go_wp2_with fail
    go_ret
    exact ⟨_, rfl, by have := ext_le s i s.size; rw [ByteArray.size_append]; omega, HR.out.mono (by omega), HB.out⟩

end Go.Proofs.YthjicahpfhjfdaaGreatDoor
