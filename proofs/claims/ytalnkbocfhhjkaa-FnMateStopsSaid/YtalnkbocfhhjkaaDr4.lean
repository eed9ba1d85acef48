/-
  A text many times; a code opened.
-/
import Derived.Test.YtalnkbocfhhjkaaDr1
import Derived.Laws.Concat
import Derived.Laws.Strings2
namespace Go.Proofs.Ytalnkbocfhhjkaa
open Go.RowKit

set_option maxHeartbeats 2000000 in
theorem many_any (s0 : ByteArray) (n : Nat) (T : Nat) (w : World) (h1 : s0.size * n ≤ T) (h2 : s0.size ≤ T) (h3 : T ≤ 100000) (h4 : n ≤ 1000) :
    Calls Try.prog 23 #[.string s0, .int .i64 (n : Int)] w fun e w' => ∃ t : ByteArray, e = .returned (.string t) ∧ t.size ≤ T ∧ Below w.heap.size w w' := by
  have HB0 : Below w.heap.size w w := Below.refl _ _
  go_enter Try.func23, Try.ntmps23
  go_wp2_with fail
  go_loopw [0, 1, 5] (fun s m o wr => ∃ (t u : ByteArray) (k : Nat), s = .string t ∧ m = .int .i64 (k : Int) ∧ o = .string u ∧ k ≤ 1000 ∧ t.size ≤ 2 * T ∧ Hid (u.size + t.size * k ≤ T) ∧ Below w.heap.size w wr) (fun _ m _ _ => (intOf m).toNat)
  case atStart => exact ⟨s0, ⟨#[]⟩, n, rfl, rfl, rfl, h4, by omega, by show 0 + _ ≤ _; omega, HB0⟩
  case round =>
    obtain ⟨t, u, k, rfl, rfl, rfl, hk, ht, hT, hbel⟩ := hrel
    have hT' := hT.out
    by_cases hz : k = 0
    · subst hz
      have hu : u.size ≤ T := by omega
      clear hT'
      go_wp2_with fail
      go_ret
      exact ⟨u, rfl, hu, hbel⟩
    · have hk0 : (0 : Int) < (k : Int) := by omega
      have htk : t.size ≤ t.size * k := Nat.le_mul_of_pos_right _ (by omega)
      have e : t.size * k = 2 * (t.size * (k / 2)) + t.size * (k % 2) := by
        conv => lhs; rw [← Nat.div_add_mod k 2]
        rw [Nat.mul_add, Nat.mul_left_comm]
      have e2 : (t ++ t).size * (k / 2) = 2 * (t.size * (k / 2)) := by
        rw [ByteArray.size_append, ← Nat.two_mul, Nat.mul_assoc]
      have ht2 : (t ++ t).size ≤ 2 * T := by rw [ByteArray.size_append]; omega
      have hut : ¬ 9223372036854775807 < u.size + t.size := by omega
      have hus : (u ++ t).size = u.size + t.size := ByteArray.size_append
      have HK : Hid (u.size + t.size * k ≤ T) := hT
      have HE := Hid.intro e
      have HE2 := Hid.intro e2
      have HT2 := Hid.intro ht2
      have HUS := Hid.intro hus
      clear e e2 ht2 hus hT' htk hT
      cases h5 : ((k : Int) % 2 == 1)
      · have h6 : k % 2 = 0 := by
          have : ¬ ((k : Int) % 2 = 1) := by simpa using h5
          omega
        have HF : Hid (u.size + (t ++ t).size * (k / 2) ≤ T) := by
          have a1 := HK.out
          have a2 := HE.out
          have a3 := HE2.out
          rw [h6] at a2
          show _ ≤ _
          omega
        clear h6 HK HE HE2
        go_wp2_with fail
        exact ⟨⟨t ++ t, u, k / 2, rfl, rfl, rfl, by omega, HT2.out, HF, hbel⟩, by simp [intOf]; omega⟩
      · have h6 : k % 2 = 1 := by
          have : (k : Int) % 2 = 1 := by simpa using h5
          omega
        have HF : Hid ((u ++ t).size + (t ++ t).size * (k / 2) ≤ T) := by
          have a1 := HK.out
          have a2 := HE.out
          have a3 := HE2.out
          have a4 := HUS.out
          rw [h6] at a2
          show _ ≤ _
          omega
        clear h6 HK HE HE2
        go_wp2_with fail
        exact ⟨⟨t ++ t, u ++ t, k / 2, rfl, rfl, rfl, by omega, HT2.out, HF, hbel⟩, by simp [intOf]; omega⟩

theorem bys_alloc {xs : List Nat} {a : Option Addr} {w : World} (h : ∀ (k x : Nat), xs[k]? = some x → ∃ b o, a = some ⟨b, o, none⟩ ∧ w.cell? ⟨b, o + k, none⟩ = some (.int .u8 (x : Int)) ∧ x < 256 ∧ b < w.heap.size) (ob : Obj) : ByS w.heap.size a xs (w.alloc ob) := fun k x hk => by
  obtain ⟨b, o, e, c, l, q⟩ := h k x hk
  exact ⟨b, o, e, (World.cell?_alloc_lt _ _ _ q).trans c, l, q⟩

set_option maxHeartbeats 2000000 in
theorem open_rd (xs : List Nat) (a : Option Addr) (cap : Nat) (w : World) (hin : ∀ (k x : Nat), xs[k]? = some x → ∃ b o, a = some ⟨b, o, none⟩ ∧ w.cell? ⟨b, o + k, none⟩ = some (.int .u8 (x : Int)) ∧ x < 256 ∧ b < w.heap.size) (hl : xs.length ≤ 1048576) (hc : xs.length ≤ cap) :
    Calls Try.prog 7 #[.slice a xs.length cap] w fun e w' => ∃ p, e = .returned (.pointer (some ⟨p, 0, none⟩)) ∧ RdS p 0 w' ∧ w.heap.size ≤ p ∧ Below w.heap.size w w' := by
  have HI := Hid.intro hin
  clear hin
  by_cases h : xs.length ≤ 2000
  · have hi : ¬ (2000 : Int) < (xs.length : Int) := by omega
    go_enter Try.func7, Try.ntmps7
    go_wp2_with fail
    go_ret
    exact ⟨w.heap.size, rfl, ⟨xs, a, cap, bys_alloc (fun _ _ hk => HI.out _ _ hk) _, Blk.alloc _ _ _, h⟩, Nat.le_refl _, (Below.refl _ _).alloc (Nat.le_refl _) _⟩
  · have hi : (2000 : Int) < (xs.length : Int) := by omega
    have ht : (xs.take 2000).length = 2000 := by rw [List.length_take]; omega
    go_enter Try.func7, Try.ntmps7
    go_wp2_with fail
    go_ret
    refine ⟨w.heap.size, rfl, ⟨xs.take 2000, a, cap, bys_alloc (fun k x hk => ?_) _, ?_, by omega⟩, Nat.le_refl _, (Below.refl _ _).alloc (Nat.le_refl _) _⟩
    · rw [List.getElem?_take] at hk
      split at hk
      · exact HI.out _ _ hk
      · cases hk
    · rw [ht]
      exact Blk.alloc _ _ _

end Go.Proofs.Ytalnkbocfhhjkaa
