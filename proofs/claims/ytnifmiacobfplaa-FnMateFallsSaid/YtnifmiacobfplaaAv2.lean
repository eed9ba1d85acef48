import Derived.Test.YtnifmiacobfplaaTkw
import Derived.Test.YtnifmiacobfplaaAv1
import Derived.Test.YtnifmiacobfplaaMt6
namespace Go.Proofs.Ytnifmiacobfplaa
open Go.RowKit

set_option maxHeartbeats 8000000 in
set_option maxRecDepth 100000 in
theorem specAsksOk_any (xs : List Aks) (a : Option Addr) (cap lo : Nat) (c : Int) (w : World) (hin : SliceC AksC 4 lo w a xs) (hsm : xs.length ≤ 1048576) :
  Calls Try.prog 30 #[.slice a xs.length cap, .int .i64 c] w fun e w' => e = .returned (.bool (aksB xs c)) ∧ Below w.heap.size w w' := by
 have HI : Hid (SliceC AksC 4 lo w a xs) := hin
 clear hin
 by_cases hl : xs.length ≤ 40
 case neg =>
  have hl' : (40 : Int) < xs.length := by omega
  have HE : Hid (aksB xs c = false) := by show _ = _; unfold aksB; rw [decide_eq_false hl]; rfl
  clear hl
  go_enter Try.func30, Try.ntmps30
  go_wp2_with fail
  go_ret
  exact ⟨ret_bool HE.out.symm, by go_grown⟩
 have hl' : (xs.length : Int) ≤ 40 := by omega
 go_enter Try.func30, Try.ntmps30
 go_wp2_with fail
 go_loopw [5] (fun i wr => ∃ k : Nat, k ≤ xs.length ∧ i = .int .i64 k ∧ Hid (∀ (j : Nat) x, j < k → xs[j]? = some x → akB x c = true) ∧ Hid (ascTo (xs.map (·.hold)) k = true) ∧ Below w.heap.size w wr) (fun i _ => xs.length - (intOf i).toNat)
 case atStart => exact ⟨0, Nat.zero_le _, rfl, fun j q h => by omega, rfl, by go_grown⟩
 case round =>
  obtain ⟨k, hk, rfl, hN, hA, hB⟩ := hrel
  by_cases hlt : k < xs.length
  case neg =>
   have hke : k = xs.length := by omega
   subst hke
   have HE := Hid.intro (aksB_yes hl hA.out hN.out)
   go_wp2_with fail
   go_ret
   exact ⟨ret_bool HE.out.symm, hB⟩
  ·obtain ⟨y, hy⟩ : ∃ y, xs[k]? = some y := ⟨xs[k], List.getElem?_eq_getElem hlt⟩
   have HIR := Hid.intro (HI.out.below AksC.holds hB (Nat.le_refl _))
   obtain ⟨b, o, rfl, _, hbl, hc⟩ := HIR.out.at hy
   have hz := hc
   obtain ⟨_, _, _, _, z0, z1⟩ := hz
   have HRA := Hid.intro (aks_range hc)
   have Z0 := Hid.intro z0
   have Z1 := Hid.intro z1
   have HYY := Hid.intro hy
   clear hc z0 z1 hy
   have hza : Blk wr.heap.size #[.string ⟨#[]⟩, .string ⟨#[]⟩, .int .i64 0, .int .i64 0] 57 (wr.alloc (Obj.cells #[.string ⟨#[]⟩, .string ⟨#[]⟩, .int .i64 0, .int .i64 0] 57)) := Blk.alloc _ _ _
   have HTS : Hid ((wr.alloc (Obj.cells #[.string ⟨#[]⟩, .string ⟨#[]⟩, .int .i64 0, .int .i64 0] 57)).there wr.heap.size 0 4) := hza.there
   obtain ⟨w4, HW4⟩ : ∃ w4, Hid (w4 = (wr.alloc (Obj.cells #[.string ⟨#[]⟩, .string ⟨#[]⟩, .int .i64 0, .int .i64 0] 57)).setCells wr.heap.size 0 [.string y.hold, .string y.copy, .int .i64 y.first, .int .i64 y.at_]) := ⟨_, rfl⟩
   have HK4 : Hid (Blk wr.heap.size #[.string y.hold, .string y.copy, .int .i64 y.first, .int .i64 y.at_] 57 w4) := by
    show Blk _ _ _ _
    rw [HW4.out]
    exact hza.setAll #[.string y.hold, .string y.copy, .int .i64 y.first, .int .i64 y.at_] rfl
   have hbx : Below wr.heap.size wr w4 := by
    rw [HW4.out]
    exact below_setCells (Nat.le_refl _) _ _ _ ((Below.refl _ wr).alloc (Nat.le_refl _) _)
   have hB4 : Below w.heap.size w w4 := hB.trans (hbx.mono hB.size)
   replace HIR : Hid (SliceC AksC 4 lo w4 (some ⟨b, o, none⟩) xs) := HI.out.below AksC.holds hB4 (Nat.le_refl _)
   clear hza hbx hB
   go_upto_region 7 with (first | (refine wpList_load_mid rfl 57 _ rfl b (o + k * 4) (by first | rfl | (simp [go_sem]; done)) [.string y.hold, .string y.copy, .int .i64 y.first, .int .i64 y.at_] _ HRA.out Try.underlying57 rfl isz_Aks ?_) | (refine wpList_store_to rfl 57 _ _ rfl wr.heap.size 0 #[.string y.hold, .string y.copy, .int .i64 y.first, .int .i64 y.at_] rfl rfl HTS.out isz_Aks (by simp [Value.oneCell']) w4 HW4.out ?_))
   clear HRA HTS HW4
   generalize wr.heap.size = g at *
   cases g0 : hdB y.hold with
   | false =>
    have HE := Hid.intro (aksB_no (c := c) HYY.out (show akB y c = false by unfold akB; simp [g0]))
    have G0 := Hid.intro g0
    clear g0
    go_wp2_with fail
    refine wp_region_held_drew (S := fun wy => Blk g #[.string y.hold, .string y.copy, .int .i64 y.first, .int .i64 y.at_] 57 wy) (by kernel_rfl) HK4.out.drew (fun hS => ?_)
    have hB5 : Below w.heap.size w w4.drew := hB4.trans ((Below.refl w.heap.size w4).drew)
    generalize w4.drew = w5 at *
    refine ty 0 ⟨some 20, _, _, _, _, none⟩ (.pointer (some ⟨g, 0, none⟩)) rfl (by rfl) ?_ hS ?_
    ·intro wy hy
     clear hy
     go_simp
    simp only [pA, pB, pC, pD]
    refine ty 1 ⟨some 21, _, _, _, _, none⟩ (.string y.hold) rfl (by rfl) ?_ hS ?_
    ·intro wy hy
     have h0 : wy.cell? ⟨g, 0, none⟩ = some (.string y.hold) := hy.cell rfl
     clear hy
     go_simp
    simp only [pA, pB, pC, pD]
    refine rd1 2 ⟨some 22, _, _, _, _, none⟩ rfl (fun K hK => ?_)
    go_simp
    refine (hold10_any y.hold _ Z0.out).mono ?_
    rintro e v0 ⟨rfl, rfl⟩
    refine hK.out _ _ hS (fun hS => ?_)
    clear hK K
    rw [G0.out]
    refine ty 3 ⟨some 23, _, _, _, _, none⟩ (.bool true) rfl (by rfl) ?_ hS ?_
    ·intro wy hy
     clear hy
     go_simp
    simp only [pA, pB, pC, pD]
    refine ty 4 ⟨some 24, _, _, _, _, none⟩ (.bool true) rfl (by rfl) ?_ hS ?_
    ·intro wy hy
     clear hy
     go_simp
    simp only [pA, pB, pC, pD]
    refine tk 5 ⟨some 25, _, _, _, _, some (4, false)⟩ undef rfl (Or.inr ⟨by rfl, rfl⟩) hS ?_
    simp only [pA, pB, pC, pD]
    refine tk 6 ⟨some 26, _, _, _, _, some (4, false)⟩ undef rfl (Or.inr ⟨by rfl, rfl⟩) hS ?_
    simp only [pA, pB, pC, pD]
    refine tk 7 ⟨some 27, _, _, _, _, some (4, false)⟩ undef rfl (Or.inr ⟨by rfl, rfl⟩) hS ?_
    simp only [pA, pB, pC, pD]
    refine tk 8 ⟨some 28, _, _, _, _, some (4, false)⟩ undef rfl (Or.inr ⟨by rfl, rfl⟩) hS ?_
    simp only [pA, pB, pC, pD]
    refine ty 9 ⟨some 29, _, _, _, _, none⟩ (.bool true) rfl (by rfl) ?_ hS ?_
    ·intro wy hy
     clear hy
     go_simp
    simp only [pA, pB, pC, pD]
    refine ty 10 ⟨some 30, _, _, _, _, none⟩ (.bool true) rfl (by rfl) ?_ hS ?_
    ·intro wy hy
     clear hy
     go_simp
    simp only [pA, pB, pC, pD]
    refine tk 11 ⟨some 31, _, _, _, _, some (10, false)⟩ undef rfl (Or.inr ⟨by rfl, rfl⟩) hS ?_
    simp only [pA, pB, pC, pD]
    refine tk 12 ⟨some 32, _, _, _, _, some (10, false)⟩ undef rfl (Or.inr ⟨by rfl, rfl⟩) hS ?_
    simp only [pA, pB, pC, pD]
    refine tk 13 ⟨some 33, _, _, _, _, some (10, false)⟩ undef rfl (Or.inr ⟨by rfl, rfl⟩) hS ?_
    simp only [pA, pB, pC, pD]
    refine tk 14 ⟨some 34, _, _, _, _, some (10, false)⟩ undef rfl (Or.inr ⟨by rfl, rfl⟩) hS ?_
    simp only [pA, pB, pC, pD]
    refine tk 15 ⟨some 35, _, _, _, _, some (10, false)⟩ undef rfl (Or.inr ⟨by rfl, rfl⟩) hS ?_
    simp only [pA, pB, pC, pD]
    refine ty 16 ⟨some 36, _, _, _, _, none⟩ (.bool true) rfl (by rfl) ?_ hS ?_
    ·intro wy hy
     clear hy
     go_simp
    simp only [pA, pB, pC, pD]
    refine ty 17 ⟨some 37, _, _, _, _, none⟩ (.bool true) rfl (by rfl) ?_ hS ?_
    ·intro wy hy
     clear hy
     go_simp
    simp only [pA, pB, pC, pD]
    refine tk 18 ⟨some 38, _, _, _, _, some (17, false)⟩ undef rfl (Or.inr ⟨by rfl, rfl⟩) hS ?_
    simp only [pA, pB, pC, pD]
    refine tk 19 ⟨some 39, _, _, _, _, some (17, false)⟩ undef rfl (Or.inr ⟨by rfl, rfl⟩) hS ?_
    simp only [pA, pB, pC, pD]
    refine tk 20 ⟨some 40, _, _, _, _, some (17, false)⟩ undef rfl (Or.inr ⟨by rfl, rfl⟩) hS ?_
    simp only [pA, pB, pC, pD]
    refine tk 21 ⟨some 41, _, _, _, _, some (17, false)⟩ undef rfl (Or.inr ⟨by rfl, rfl⟩) hS ?_
    simp only [pA, pB, pC, pD]
    refine tk 22 ⟨some 42, _, _, _, _, some (17, false)⟩ undef rfl (Or.inr ⟨by rfl, rfl⟩) hS ?_
    simp only [pA, pB, pC, pD]
    refine tk 23 ⟨some 43, _, _, _, _, some (17, false)⟩ undef rfl (Or.inr ⟨by rfl, rfl⟩) hS ?_
    simp only [pA, pB, pC, pD]
    refine ty 24 ⟨some 44, _, _, _, _, none⟩ (.bool true) rfl (by rfl) ?_ hS ?_
    ·intro wy hy
     clear hy
     go_simp
    simp only [pA, pB, pC, pD]
    refine ty 25 ⟨some 45, _, _, _, _, none⟩ (.bool true) rfl (by rfl) ?_ hS ?_
    ·intro wy hy
     clear hy
     go_simp
    simp only [pA, pB, pC, pD]
    refine tk 26 ⟨some 46, _, _, _, _, some (25, false)⟩ undef rfl (Or.inr ⟨by rfl, rfl⟩) hS ?_
    simp only [pA, pB, pC, pD]
    refine tk 27 ⟨some 47, _, _, _, _, some (25, false)⟩ undef rfl (Or.inr ⟨by rfl, rfl⟩) hS ?_
    simp only [pA, pB, pC, pD]
    refine tk 28 ⟨some 48, _, _, _, _, some (25, false)⟩ undef rfl (Or.inr ⟨by rfl, rfl⟩) hS ?_
    simp only [pA, pB, pC, pD]
    refine tk 29 ⟨some 49, _, _, _, _, some (28, true)⟩ undef rfl (Or.inr ⟨by rfl, rfl⟩) hS ?_
    simp only [pA, pB, pC, pD]
    refine tk 30 ⟨some 50, _, _, _, _, some (28, true)⟩ undef rfl (Or.inr ⟨by rfl, rfl⟩) hS ?_
    simp only [pA, pB, pC, pD]
    refine tk 31 ⟨some 51, _, _, _, _, some (28, true)⟩ undef rfl (Or.inr ⟨by rfl, rfl⟩) hS ?_
    simp only [pA, pB, pC, pD]
    refine tk 32 ⟨some 52, _, _, _, _, some (28, true)⟩ undef rfl (Or.inr ⟨by rfl, rfl⟩) hS ?_
    simp only [pA, pB, pC, pD]
    refine tk 33 ⟨some 53, _, _, _, _, some (28, true)⟩ undef rfl (Or.inr ⟨by rfl, rfl⟩) hS ?_
    simp only [pA, pB, pC, pD]
    refine tk 34 ⟨some 54, _, _, _, _, some (28, true)⟩ undef rfl (Or.inr ⟨by rfl, rfl⟩) hS ?_
    simp only [pA, pB, pC, pD]
    refine tk 35 ⟨some 55, _, _, _, _, some (28, true)⟩ undef rfl (Or.inr ⟨by rfl, rfl⟩) hS ?_
    simp only [pA, pB, pC, pD]
    refine tk 36 ⟨some 56, _, _, _, _, some (28, true)⟩ undef rfl (Or.inr ⟨by rfl, rfl⟩) hS ?_
    simp only [pA, pB, pC, pD]
    refine tk 37 ⟨some 57, _, _, _, _, some (28, true)⟩ undef rfl (Or.inr ⟨by rfl, rfl⟩) hS ?_
    simp only [pA, pB, pC, pD]
    refine tk 38 ⟨some 58, _, _, _, _, some (25, false)⟩ undef rfl (Or.inr ⟨by rfl, rfl⟩) hS ?_
    simp only [pA, pB, pC, pD]
    refine ty 39 ⟨some 59, _, _, _, _, none⟩ (.bool true) rfl (by rfl) ?_ hS ?_
    ·intro wy hy
     clear hy
     go_simp
    simp only [pA, pB, pC, pD]
    refine wpAnyH_done (by kernel_rfl) ?_ _
    clear hS
    go_wp2_with fail
    go_ret
    exact ⟨ret_bool HE.out.symm, hB5⟩
   | true =>
    cases g1 : nmB y.copy with
    | false =>
     have HE := Hid.intro (aksB_no (c := c) HYY.out (show akB y c = false by unfold akB; simp [g1]))
     have G0 := Hid.intro g0
     have G1 := Hid.intro g1
     clear g0 g1
     go_wp2_with fail
     refine wp_region_held_drew (S := fun wy => Blk g #[.string y.hold, .string y.copy, .int .i64 y.first, .int .i64 y.at_] 57 wy) (by kernel_rfl) HK4.out.drew (fun hS => ?_)
     have hB5 : Below w.heap.size w w4.drew := hB4.trans ((Below.refl w.heap.size w4).drew)
     generalize w4.drew = w5 at *
     refine ty 0 ⟨some 20, _, _, _, _, none⟩ (.pointer (some ⟨g, 0, none⟩)) rfl (by rfl) ?_ hS ?_
     ·intro wy hy
      clear hy
      go_simp
     simp only [pA, pB, pC, pD]
     refine ty 1 ⟨some 21, _, _, _, _, none⟩ (.string y.hold) rfl (by rfl) ?_ hS ?_
     ·intro wy hy
      have h0 : wy.cell? ⟨g, 0, none⟩ = some (.string y.hold) := hy.cell rfl
      clear hy
      go_simp
     simp only [pA, pB, pC, pD]
     refine rd1 2 ⟨some 22, _, _, _, _, none⟩ rfl (fun K hK => ?_)
     go_simp
     refine (hold10_any y.hold _ Z0.out).mono ?_
     rintro e v0 ⟨rfl, rfl⟩
     refine hK.out _ _ hS (fun hS => ?_)
     clear hK K
     rw [G0.out]
     refine ty 3 ⟨some 23, _, _, _, _, none⟩ (.bool false) rfl (by rfl) ?_ hS ?_
     ·intro wy hy
      clear hy
      go_simp
     simp only [pA, pB, pC, pD]
     refine ty 4 ⟨some 24, _, _, _, _, none⟩ (.bool false) rfl (by rfl) ?_ hS ?_
     ·intro wy hy
      clear hy
      go_simp
     simp only [pA, pB, pC, pD]
     refine ty 5 ⟨some 25, _, _, _, _, some (4, false)⟩ (.pointer (some ⟨g, 1, none⟩)) rfl (by rfl) ?_ hS ?_
     ·intro wy hy
      clear hy
      go_simp
     simp only [pA, pB, pC, pD]
     refine ty 6 ⟨some 26, _, _, _, _, some (4, false)⟩ (.string y.copy) rfl (by rfl) ?_ hS ?_
     ·intro wy hy
      have h0 : wy.cell? ⟨g, 1, none⟩ = some (.string y.copy) := hy.cell rfl
      clear hy
      go_simp
     simp only [pA, pB, pC, pD]
     refine rd1 7 ⟨some 27, _, _, _, _, some (4, false)⟩ rfl (fun K hK => ?_)
     go_simp
     refine (name10_any y.copy _ Z1.out).mono ?_
     rintro e v1 ⟨rfl, rfl⟩
     refine hK.out _ _ hS (fun hS => ?_)
     clear hK K
     rw [G1.out]
     refine ty 8 ⟨some 28, _, _, _, _, some (4, false)⟩ (.bool true) rfl (by rfl) ?_ hS ?_
     ·intro wy hy
      clear hy
      go_simp
     simp only [pA, pB, pC, pD]
     refine ty 9 ⟨some 29, _, _, _, _, none⟩ (.bool true) rfl (by rfl) ?_ hS ?_
     ·intro wy hy
      clear hy
      go_simp
     simp only [pA, pB, pC, pD]
     refine ty 10 ⟨some 30, _, _, _, _, none⟩ (.bool true) rfl (by rfl) ?_ hS ?_
     ·intro wy hy
      clear hy
      go_simp
     simp only [pA, pB, pC, pD]
     refine tk 11 ⟨some 31, _, _, _, _, some (10, false)⟩ undef rfl (Or.inr ⟨by rfl, rfl⟩) hS ?_
     simp only [pA, pB, pC, pD]
     refine tk 12 ⟨some 32, _, _, _, _, some (10, false)⟩ undef rfl (Or.inr ⟨by rfl, rfl⟩) hS ?_
     simp only [pA, pB, pC, pD]
     refine tk 13 ⟨some 33, _, _, _, _, some (10, false)⟩ undef rfl (Or.inr ⟨by rfl, rfl⟩) hS ?_
     simp only [pA, pB, pC, pD]
     refine tk 14 ⟨some 34, _, _, _, _, some (10, false)⟩ undef rfl (Or.inr ⟨by rfl, rfl⟩) hS ?_
     simp only [pA, pB, pC, pD]
     refine tk 15 ⟨some 35, _, _, _, _, some (10, false)⟩ undef rfl (Or.inr ⟨by rfl, rfl⟩) hS ?_
     simp only [pA, pB, pC, pD]
     refine ty 16 ⟨some 36, _, _, _, _, none⟩ (.bool true) rfl (by rfl) ?_ hS ?_
     ·intro wy hy
      clear hy
      go_simp
     simp only [pA, pB, pC, pD]
     refine ty 17 ⟨some 37, _, _, _, _, none⟩ (.bool true) rfl (by rfl) ?_ hS ?_
     ·intro wy hy
      clear hy
      go_simp
     simp only [pA, pB, pC, pD]
     refine tk 18 ⟨some 38, _, _, _, _, some (17, false)⟩ undef rfl (Or.inr ⟨by rfl, rfl⟩) hS ?_
     simp only [pA, pB, pC, pD]
     refine tk 19 ⟨some 39, _, _, _, _, some (17, false)⟩ undef rfl (Or.inr ⟨by rfl, rfl⟩) hS ?_
     simp only [pA, pB, pC, pD]
     refine tk 20 ⟨some 40, _, _, _, _, some (17, false)⟩ undef rfl (Or.inr ⟨by rfl, rfl⟩) hS ?_
     simp only [pA, pB, pC, pD]
     refine tk 21 ⟨some 41, _, _, _, _, some (17, false)⟩ undef rfl (Or.inr ⟨by rfl, rfl⟩) hS ?_
     simp only [pA, pB, pC, pD]
     refine tk 22 ⟨some 42, _, _, _, _, some (17, false)⟩ undef rfl (Or.inr ⟨by rfl, rfl⟩) hS ?_
     simp only [pA, pB, pC, pD]
     refine tk 23 ⟨some 43, _, _, _, _, some (17, false)⟩ undef rfl (Or.inr ⟨by rfl, rfl⟩) hS ?_
     simp only [pA, pB, pC, pD]
     refine ty 24 ⟨some 44, _, _, _, _, none⟩ (.bool true) rfl (by rfl) ?_ hS ?_
     ·intro wy hy
      clear hy
      go_simp
     simp only [pA, pB, pC, pD]
     refine ty 25 ⟨some 45, _, _, _, _, none⟩ (.bool true) rfl (by rfl) ?_ hS ?_
     ·intro wy hy
      clear hy
      go_simp
     simp only [pA, pB, pC, pD]
     refine tk 26 ⟨some 46, _, _, _, _, some (25, false)⟩ undef rfl (Or.inr ⟨by rfl, rfl⟩) hS ?_
     simp only [pA, pB, pC, pD]
     refine tk 27 ⟨some 47, _, _, _, _, some (25, false)⟩ undef rfl (Or.inr ⟨by rfl, rfl⟩) hS ?_
     simp only [pA, pB, pC, pD]
     refine tk 28 ⟨some 48, _, _, _, _, some (25, false)⟩ undef rfl (Or.inr ⟨by rfl, rfl⟩) hS ?_
     simp only [pA, pB, pC, pD]
     refine tk 29 ⟨some 49, _, _, _, _, some (28, true)⟩ undef rfl (Or.inr ⟨by rfl, rfl⟩) hS ?_
     simp only [pA, pB, pC, pD]
     refine tk 30 ⟨some 50, _, _, _, _, some (28, true)⟩ undef rfl (Or.inr ⟨by rfl, rfl⟩) hS ?_
     simp only [pA, pB, pC, pD]
     refine tk 31 ⟨some 51, _, _, _, _, some (28, true)⟩ undef rfl (Or.inr ⟨by rfl, rfl⟩) hS ?_
     simp only [pA, pB, pC, pD]
     refine tk 32 ⟨some 52, _, _, _, _, some (28, true)⟩ undef rfl (Or.inr ⟨by rfl, rfl⟩) hS ?_
     simp only [pA, pB, pC, pD]
     refine tk 33 ⟨some 53, _, _, _, _, some (28, true)⟩ undef rfl (Or.inr ⟨by rfl, rfl⟩) hS ?_
     simp only [pA, pB, pC, pD]
     refine tk 34 ⟨some 54, _, _, _, _, some (28, true)⟩ undef rfl (Or.inr ⟨by rfl, rfl⟩) hS ?_
     simp only [pA, pB, pC, pD]
     refine tk 35 ⟨some 55, _, _, _, _, some (28, true)⟩ undef rfl (Or.inr ⟨by rfl, rfl⟩) hS ?_
     simp only [pA, pB, pC, pD]
     refine tk 36 ⟨some 56, _, _, _, _, some (28, true)⟩ undef rfl (Or.inr ⟨by rfl, rfl⟩) hS ?_
     simp only [pA, pB, pC, pD]
     refine tk 37 ⟨some 57, _, _, _, _, some (28, true)⟩ undef rfl (Or.inr ⟨by rfl, rfl⟩) hS ?_
     simp only [pA, pB, pC, pD]
     refine tk 38 ⟨some 58, _, _, _, _, some (25, false)⟩ undef rfl (Or.inr ⟨by rfl, rfl⟩) hS ?_
     simp only [pA, pB, pC, pD]
     refine ty 39 ⟨some 59, _, _, _, _, none⟩ (.bool true) rfl (by rfl) ?_ hS ?_
     ·intro wy hy
      clear hy
      go_simp
     simp only [pA, pB, pC, pD]
     refine wpAnyH_done (by kernel_rfl) ?_ _
     clear hS
     go_wp2_with fail
     go_ret
     exact ⟨ret_bool HE.out.symm, hB5⟩
    | true =>
     cases g2 : inR y.at_ 0 c with
     | false =>
      have HE := Hid.intro (aksB_no (c := c) HYY.out (show akB y c = false by unfold akB; simp [g2]))
      have G0 := Hid.intro g0
      have G1 := Hid.intro g1
      have G2 := Hid.intro g2
      clear g0 g1 g2
      go_wp2_with fail
      refine wp_region_held_drew (S := fun wy => Blk g #[.string y.hold, .string y.copy, .int .i64 y.first, .int .i64 y.at_] 57 wy) (by kernel_rfl) HK4.out.drew (fun hS => ?_)
      have hB5 : Below w.heap.size w w4.drew := hB4.trans ((Below.refl w.heap.size w4).drew)
      generalize w4.drew = w5 at *
      refine ty 0 ⟨some 20, _, _, _, _, none⟩ (.pointer (some ⟨g, 0, none⟩)) rfl (by rfl) ?_ hS ?_
      ·intro wy hy
       clear hy
       go_simp
      simp only [pA, pB, pC, pD]
      refine ty 1 ⟨some 21, _, _, _, _, none⟩ (.string y.hold) rfl (by rfl) ?_ hS ?_
      ·intro wy hy
       have h0 : wy.cell? ⟨g, 0, none⟩ = some (.string y.hold) := hy.cell rfl
       clear hy
       go_simp
      simp only [pA, pB, pC, pD]
      refine rd1 2 ⟨some 22, _, _, _, _, none⟩ rfl (fun K hK => ?_)
      go_simp
      refine (hold10_any y.hold _ Z0.out).mono ?_
      rintro e v0 ⟨rfl, rfl⟩
      refine hK.out _ _ hS (fun hS => ?_)
      clear hK K
      rw [G0.out]
      refine ty 3 ⟨some 23, _, _, _, _, none⟩ (.bool false) rfl (by rfl) ?_ hS ?_
      ·intro wy hy
       clear hy
       go_simp
      simp only [pA, pB, pC, pD]
      refine ty 4 ⟨some 24, _, _, _, _, none⟩ (.bool false) rfl (by rfl) ?_ hS ?_
      ·intro wy hy
       clear hy
       go_simp
      simp only [pA, pB, pC, pD]
      refine ty 5 ⟨some 25, _, _, _, _, some (4, false)⟩ (.pointer (some ⟨g, 1, none⟩)) rfl (by rfl) ?_ hS ?_
      ·intro wy hy
       clear hy
       go_simp
      simp only [pA, pB, pC, pD]
      refine ty 6 ⟨some 26, _, _, _, _, some (4, false)⟩ (.string y.copy) rfl (by rfl) ?_ hS ?_
      ·intro wy hy
       have h0 : wy.cell? ⟨g, 1, none⟩ = some (.string y.copy) := hy.cell rfl
       clear hy
       go_simp
      simp only [pA, pB, pC, pD]
      refine rd1 7 ⟨some 27, _, _, _, _, some (4, false)⟩ rfl (fun K hK => ?_)
      go_simp
      refine (name10_any y.copy _ Z1.out).mono ?_
      rintro e v1 ⟨rfl, rfl⟩
      refine hK.out _ _ hS (fun hS => ?_)
      clear hK K
      rw [G1.out]
      refine ty 8 ⟨some 28, _, _, _, _, some (4, false)⟩ (.bool false) rfl (by rfl) ?_ hS ?_
      ·intro wy hy
       clear hy
       go_simp
      simp only [pA, pB, pC, pD]
      refine ty 9 ⟨some 29, _, _, _, _, none⟩ (.bool false) rfl (by rfl) ?_ hS ?_
      ·intro wy hy
       clear hy
       go_simp
      simp only [pA, pB, pC, pD]
      refine ty 10 ⟨some 30, _, _, _, _, none⟩ (.bool false) rfl (by rfl) ?_ hS ?_
      ·intro wy hy
       clear hy
       go_simp
      simp only [pA, pB, pC, pD]
      refine ty 11 ⟨some 31, _, _, _, _, some (10, false)⟩ (.pointer (some ⟨g, 3, none⟩)) rfl (by rfl) ?_ hS ?_
      ·intro wy hy
       clear hy
       go_simp
      simp only [pA, pB, pC, pD]
      refine ty 12 ⟨some 32, _, _, _, _, some (10, false)⟩ (.int .i64 y.at_) rfl (by rfl) ?_ hS ?_
      ·intro wy hy
       have h0 : wy.cell? ⟨g, 3, none⟩ = some (.int .i64 y.at_) := hy.cell rfl
       clear hy
       go_simp
      simp only [pA, pB, pC, pD]
      refine ty 13 ⟨some 33, _, _, _, _, some (10, false)⟩ (.int .i64 c) rfl (by rfl) ?_ hS ?_
      ·intro wy hy
       clear hy
       go_simp
      simp only [pA, pB, pC, pD]
      refine rd1 14 ⟨some 34, _, _, _, _, some (10, false)⟩ rfl (fun K hK => ?_)
      go_simp
      refine (in10_any y.at_ 0 c _).mono ?_
      rintro e v2 ⟨rfl, rfl⟩
      refine hK.out _ _ hS (fun hS => ?_)
      clear hK K
      rw [G2.out]
      refine ty 15 ⟨some 35, _, _, _, _, some (10, false)⟩ (.bool true) rfl (by rfl) ?_ hS ?_
      ·intro wy hy
       clear hy
       go_simp
      simp only [pA, pB, pC, pD]
      refine ty 16 ⟨some 36, _, _, _, _, none⟩ (.bool true) rfl (by rfl) ?_ hS ?_
      ·intro wy hy
       clear hy
       go_simp
      simp only [pA, pB, pC, pD]
      refine ty 17 ⟨some 37, _, _, _, _, none⟩ (.bool true) rfl (by rfl) ?_ hS ?_
      ·intro wy hy
       clear hy
       go_simp
      simp only [pA, pB, pC, pD]
      refine tk 18 ⟨some 38, _, _, _, _, some (17, false)⟩ undef rfl (Or.inr ⟨by rfl, rfl⟩) hS ?_
      simp only [pA, pB, pC, pD]
      refine tk 19 ⟨some 39, _, _, _, _, some (17, false)⟩ undef rfl (Or.inr ⟨by rfl, rfl⟩) hS ?_
      simp only [pA, pB, pC, pD]
      refine tk 20 ⟨some 40, _, _, _, _, some (17, false)⟩ undef rfl (Or.inr ⟨by rfl, rfl⟩) hS ?_
      simp only [pA, pB, pC, pD]
      refine tk 21 ⟨some 41, _, _, _, _, some (17, false)⟩ undef rfl (Or.inr ⟨by rfl, rfl⟩) hS ?_
      simp only [pA, pB, pC, pD]
      refine tk 22 ⟨some 42, _, _, _, _, some (17, false)⟩ undef rfl (Or.inr ⟨by rfl, rfl⟩) hS ?_
      simp only [pA, pB, pC, pD]
      refine tk 23 ⟨some 43, _, _, _, _, some (17, false)⟩ undef rfl (Or.inr ⟨by rfl, rfl⟩) hS ?_
      simp only [pA, pB, pC, pD]
      refine ty 24 ⟨some 44, _, _, _, _, none⟩ (.bool true) rfl (by rfl) ?_ hS ?_
      ·intro wy hy
       clear hy
       go_simp
      simp only [pA, pB, pC, pD]
      refine ty 25 ⟨some 45, _, _, _, _, none⟩ (.bool true) rfl (by rfl) ?_ hS ?_
      ·intro wy hy
       clear hy
       go_simp
      simp only [pA, pB, pC, pD]
      refine tk 26 ⟨some 46, _, _, _, _, some (25, false)⟩ undef rfl (Or.inr ⟨by rfl, rfl⟩) hS ?_
      simp only [pA, pB, pC, pD]
      refine tk 27 ⟨some 47, _, _, _, _, some (25, false)⟩ undef rfl (Or.inr ⟨by rfl, rfl⟩) hS ?_
      simp only [pA, pB, pC, pD]
      refine tk 28 ⟨some 48, _, _, _, _, some (25, false)⟩ undef rfl (Or.inr ⟨by rfl, rfl⟩) hS ?_
      simp only [pA, pB, pC, pD]
      refine tk 29 ⟨some 49, _, _, _, _, some (28, true)⟩ undef rfl (Or.inr ⟨by rfl, rfl⟩) hS ?_
      simp only [pA, pB, pC, pD]
      refine tk 30 ⟨some 50, _, _, _, _, some (28, true)⟩ undef rfl (Or.inr ⟨by rfl, rfl⟩) hS ?_
      simp only [pA, pB, pC, pD]
      refine tk 31 ⟨some 51, _, _, _, _, some (28, true)⟩ undef rfl (Or.inr ⟨by rfl, rfl⟩) hS ?_
      simp only [pA, pB, pC, pD]
      refine tk 32 ⟨some 52, _, _, _, _, some (28, true)⟩ undef rfl (Or.inr ⟨by rfl, rfl⟩) hS ?_
      simp only [pA, pB, pC, pD]
      refine tk 33 ⟨some 53, _, _, _, _, some (28, true)⟩ undef rfl (Or.inr ⟨by rfl, rfl⟩) hS ?_
      simp only [pA, pB, pC, pD]
      refine tk 34 ⟨some 54, _, _, _, _, some (28, true)⟩ undef rfl (Or.inr ⟨by rfl, rfl⟩) hS ?_
      simp only [pA, pB, pC, pD]
      refine tk 35 ⟨some 55, _, _, _, _, some (28, true)⟩ undef rfl (Or.inr ⟨by rfl, rfl⟩) hS ?_
      simp only [pA, pB, pC, pD]
      refine tk 36 ⟨some 56, _, _, _, _, some (28, true)⟩ undef rfl (Or.inr ⟨by rfl, rfl⟩) hS ?_
      simp only [pA, pB, pC, pD]
      refine tk 37 ⟨some 57, _, _, _, _, some (28, true)⟩ undef rfl (Or.inr ⟨by rfl, rfl⟩) hS ?_
      simp only [pA, pB, pC, pD]
      refine tk 38 ⟨some 58, _, _, _, _, some (25, false)⟩ undef rfl (Or.inr ⟨by rfl, rfl⟩) hS ?_
      simp only [pA, pB, pC, pD]
      refine ty 39 ⟨some 59, _, _, _, _, none⟩ (.bool true) rfl (by rfl) ?_ hS ?_
      ·intro wy hy
       clear hy
       go_simp
      simp only [pA, pB, pC, pD]
      refine wpAnyH_done (by kernel_rfl) ?_ _
      clear hS
      go_wp2_with fail
      go_ret
      exact ⟨ret_bool HE.out.symm, hB5⟩
     | true =>
      cases g3 : inR y.first 0 y.at_ with
      | false =>
       have HE := Hid.intro (aksB_no (c := c) HYY.out (show akB y c = false by unfold akB; simp [g3]))
       have G0 := Hid.intro g0
       have G1 := Hid.intro g1
       have G2 := Hid.intro g2
       have G3 := Hid.intro g3
       clear g0 g1 g2 g3
       go_wp2_with fail
       refine wp_region_held_drew (S := fun wy => Blk g #[.string y.hold, .string y.copy, .int .i64 y.first, .int .i64 y.at_] 57 wy) (by kernel_rfl) HK4.out.drew (fun hS => ?_)
       have hB5 : Below w.heap.size w w4.drew := hB4.trans ((Below.refl w.heap.size w4).drew)
       generalize w4.drew = w5 at *
       refine ty 0 ⟨some 20, _, _, _, _, none⟩ (.pointer (some ⟨g, 0, none⟩)) rfl (by rfl) ?_ hS ?_
       ·intro wy hy
        clear hy
        go_simp
       simp only [pA, pB, pC, pD]
       refine ty 1 ⟨some 21, _, _, _, _, none⟩ (.string y.hold) rfl (by rfl) ?_ hS ?_
       ·intro wy hy
        have h0 : wy.cell? ⟨g, 0, none⟩ = some (.string y.hold) := hy.cell rfl
        clear hy
        go_simp
       simp only [pA, pB, pC, pD]
       refine rd1 2 ⟨some 22, _, _, _, _, none⟩ rfl (fun K hK => ?_)
       go_simp
       refine (hold10_any y.hold _ Z0.out).mono ?_
       rintro e v0 ⟨rfl, rfl⟩
       refine hK.out _ _ hS (fun hS => ?_)
       clear hK K
       rw [G0.out]
       refine ty 3 ⟨some 23, _, _, _, _, none⟩ (.bool false) rfl (by rfl) ?_ hS ?_
       ·intro wy hy
        clear hy
        go_simp
       simp only [pA, pB, pC, pD]
       refine ty 4 ⟨some 24, _, _, _, _, none⟩ (.bool false) rfl (by rfl) ?_ hS ?_
       ·intro wy hy
        clear hy
        go_simp
       simp only [pA, pB, pC, pD]
       refine ty 5 ⟨some 25, _, _, _, _, some (4, false)⟩ (.pointer (some ⟨g, 1, none⟩)) rfl (by rfl) ?_ hS ?_
       ·intro wy hy
        clear hy
        go_simp
       simp only [pA, pB, pC, pD]
       refine ty 6 ⟨some 26, _, _, _, _, some (4, false)⟩ (.string y.copy) rfl (by rfl) ?_ hS ?_
       ·intro wy hy
        have h0 : wy.cell? ⟨g, 1, none⟩ = some (.string y.copy) := hy.cell rfl
        clear hy
        go_simp
       simp only [pA, pB, pC, pD]
       refine rd1 7 ⟨some 27, _, _, _, _, some (4, false)⟩ rfl (fun K hK => ?_)
       go_simp
       refine (name10_any y.copy _ Z1.out).mono ?_
       rintro e v1 ⟨rfl, rfl⟩
       refine hK.out _ _ hS (fun hS => ?_)
       clear hK K
       rw [G1.out]
       refine ty 8 ⟨some 28, _, _, _, _, some (4, false)⟩ (.bool false) rfl (by rfl) ?_ hS ?_
       ·intro wy hy
        clear hy
        go_simp
       simp only [pA, pB, pC, pD]
       refine ty 9 ⟨some 29, _, _, _, _, none⟩ (.bool false) rfl (by rfl) ?_ hS ?_
       ·intro wy hy
        clear hy
        go_simp
       simp only [pA, pB, pC, pD]
       refine ty 10 ⟨some 30, _, _, _, _, none⟩ (.bool false) rfl (by rfl) ?_ hS ?_
       ·intro wy hy
        clear hy
        go_simp
       simp only [pA, pB, pC, pD]
       refine ty 11 ⟨some 31, _, _, _, _, some (10, false)⟩ (.pointer (some ⟨g, 3, none⟩)) rfl (by rfl) ?_ hS ?_
       ·intro wy hy
        clear hy
        go_simp
       simp only [pA, pB, pC, pD]
       refine ty 12 ⟨some 32, _, _, _, _, some (10, false)⟩ (.int .i64 y.at_) rfl (by rfl) ?_ hS ?_
       ·intro wy hy
        have h0 : wy.cell? ⟨g, 3, none⟩ = some (.int .i64 y.at_) := hy.cell rfl
        clear hy
        go_simp
       simp only [pA, pB, pC, pD]
       refine ty 13 ⟨some 33, _, _, _, _, some (10, false)⟩ (.int .i64 c) rfl (by rfl) ?_ hS ?_
       ·intro wy hy
        clear hy
        go_simp
       simp only [pA, pB, pC, pD]
       refine rd1 14 ⟨some 34, _, _, _, _, some (10, false)⟩ rfl (fun K hK => ?_)
       go_simp
       refine (in10_any y.at_ 0 c _).mono ?_
       rintro e v2 ⟨rfl, rfl⟩
       refine hK.out _ _ hS (fun hS => ?_)
       clear hK K
       rw [G2.out]
       refine ty 15 ⟨some 35, _, _, _, _, some (10, false)⟩ (.bool false) rfl (by rfl) ?_ hS ?_
       ·intro wy hy
        clear hy
        go_simp
       simp only [pA, pB, pC, pD]
       refine ty 16 ⟨some 36, _, _, _, _, none⟩ (.bool false) rfl (by rfl) ?_ hS ?_
       ·intro wy hy
        clear hy
        go_simp
       simp only [pA, pB, pC, pD]
       refine ty 17 ⟨some 37, _, _, _, _, none⟩ (.bool false) rfl (by rfl) ?_ hS ?_
       ·intro wy hy
        clear hy
        go_simp
       simp only [pA, pB, pC, pD]
       refine ty 18 ⟨some 38, _, _, _, _, some (17, false)⟩ (.pointer (some ⟨g, 2, none⟩)) rfl (by rfl) ?_ hS ?_
       ·intro wy hy
        clear hy
        go_simp
       simp only [pA, pB, pC, pD]
       refine ty 19 ⟨some 39, _, _, _, _, some (17, false)⟩ (.int .i64 y.first) rfl (by rfl) ?_ hS ?_
       ·intro wy hy
        have h0 : wy.cell? ⟨g, 2, none⟩ = some (.int .i64 y.first) := hy.cell rfl
        clear hy
        go_simp
       simp only [pA, pB, pC, pD]
       refine ty 20 ⟨some 40, _, _, _, _, some (17, false)⟩ (.pointer (some ⟨g, 3, none⟩)) rfl (by rfl) ?_ hS ?_
       ·intro wy hy
        clear hy
        go_simp
       simp only [pA, pB, pC, pD]
       refine ty 21 ⟨some 41, _, _, _, _, some (17, false)⟩ (.int .i64 y.at_) rfl (by rfl) ?_ hS ?_
       ·intro wy hy
        have h0 : wy.cell? ⟨g, 3, none⟩ = some (.int .i64 y.at_) := hy.cell rfl
        clear hy
        go_simp
       simp only [pA, pB, pC, pD]
       refine rd1 22 ⟨some 42, _, _, _, _, some (17, false)⟩ rfl (fun K hK => ?_)
       go_simp
       refine (in10_any y.first 0 y.at_ _).mono ?_
       rintro e v3 ⟨rfl, rfl⟩
       refine hK.out _ _ hS (fun hS => ?_)
       clear hK K
       rw [G3.out]
       refine ty 23 ⟨some 43, _, _, _, _, some (17, false)⟩ (.bool true) rfl (by rfl) ?_ hS ?_
       ·intro wy hy
        clear hy
        go_simp
       simp only [pA, pB, pC, pD]
       refine ty 24 ⟨some 44, _, _, _, _, none⟩ (.bool true) rfl (by rfl) ?_ hS ?_
       ·intro wy hy
        clear hy
        go_simp
       simp only [pA, pB, pC, pD]
       refine ty 25 ⟨some 45, _, _, _, _, none⟩ (.bool true) rfl (by rfl) ?_ hS ?_
       ·intro wy hy
        clear hy
        go_simp
       simp only [pA, pB, pC, pD]
       refine tk 26 ⟨some 46, _, _, _, _, some (25, false)⟩ undef rfl (Or.inr ⟨by rfl, rfl⟩) hS ?_
       simp only [pA, pB, pC, pD]
       refine tk 27 ⟨some 47, _, _, _, _, some (25, false)⟩ undef rfl (Or.inr ⟨by rfl, rfl⟩) hS ?_
       simp only [pA, pB, pC, pD]
       refine tk 28 ⟨some 48, _, _, _, _, some (25, false)⟩ undef rfl (Or.inr ⟨by rfl, rfl⟩) hS ?_
       simp only [pA, pB, pC, pD]
       refine tk 29 ⟨some 49, _, _, _, _, some (28, true)⟩ undef rfl (Or.inr ⟨by rfl, rfl⟩) hS ?_
       simp only [pA, pB, pC, pD]
       refine tk 30 ⟨some 50, _, _, _, _, some (28, true)⟩ undef rfl (Or.inr ⟨by rfl, rfl⟩) hS ?_
       simp only [pA, pB, pC, pD]
       refine tk 31 ⟨some 51, _, _, _, _, some (28, true)⟩ undef rfl (Or.inr ⟨by rfl, rfl⟩) hS ?_
       simp only [pA, pB, pC, pD]
       refine tk 32 ⟨some 52, _, _, _, _, some (28, true)⟩ undef rfl (Or.inr ⟨by rfl, rfl⟩) hS ?_
       simp only [pA, pB, pC, pD]
       refine tk 33 ⟨some 53, _, _, _, _, some (28, true)⟩ undef rfl (Or.inr ⟨by rfl, rfl⟩) hS ?_
       simp only [pA, pB, pC, pD]
       refine tk 34 ⟨some 54, _, _, _, _, some (28, true)⟩ undef rfl (Or.inr ⟨by rfl, rfl⟩) hS ?_
       simp only [pA, pB, pC, pD]
       refine tk 35 ⟨some 55, _, _, _, _, some (28, true)⟩ undef rfl (Or.inr ⟨by rfl, rfl⟩) hS ?_
       simp only [pA, pB, pC, pD]
       refine tk 36 ⟨some 56, _, _, _, _, some (28, true)⟩ undef rfl (Or.inr ⟨by rfl, rfl⟩) hS ?_
       simp only [pA, pB, pC, pD]
       refine tk 37 ⟨some 57, _, _, _, _, some (28, true)⟩ undef rfl (Or.inr ⟨by rfl, rfl⟩) hS ?_
       simp only [pA, pB, pC, pD]
       refine tk 38 ⟨some 58, _, _, _, _, some (25, false)⟩ undef rfl (Or.inr ⟨by rfl, rfl⟩) hS ?_
       simp only [pA, pB, pC, pD]
       refine ty 39 ⟨some 59, _, _, _, _, none⟩ (.bool true) rfl (by rfl) ?_ hS ?_
       ·intro wy hy
        clear hy
        go_simp
       simp only [pA, pB, pC, pD]
       refine wpAnyH_done (by kernel_rfl) ?_ _
       clear hS
       go_wp2_with fail
       go_ret
       exact ⟨ret_bool HE.out.symm, hB5⟩
      | true =>
       have G0 := Hid.intro g0
       have G1 := Hid.intro g1
       have G2 := Hid.intro g2
       have G3 := Hid.intro g3
       have hro : akB y c = true := by unfold akB; rw [g0, g1, g2, g3]; rfl
       clear g0 g1 g2 g3
       have HN2 : Hid (∀ (j : Nat) z, j < k + 1 → xs[j]? = some z → akB z c = true) := fun j z hj hz => by
        by_cases e : j = k
        ·subst e
         have := HYY.out.symm.trans hz
         cases this
         exact hro
        ·exact hN.out j z (by omega) hz
       clear hro
       cases k with
       | zero =>
        have HA2 : Hid (ascTo (xs.map (·.hold)) (0 + 1) = true) := rfl
        go_wp2_with fail
        refine wp_region_held_drew (S := fun wy => Blk g #[.string y.hold, .string y.copy, .int .i64 y.first, .int .i64 y.at_] 57 wy) (by kernel_rfl) HK4.out.drew (fun hS => ?_)
        have hB5 : Below w.heap.size w w4.drew := hB4.trans ((Below.refl w.heap.size w4).drew)
        generalize w4.drew = w5 at *
        refine ty 0 ⟨some 20, _, _, _, _, none⟩ (.pointer (some ⟨g, 0, none⟩)) rfl (by rfl) ?_ hS ?_
        ·intro wy hy
         clear hy
         go_simp
        simp only [pA, pB, pC, pD]
        refine ty 1 ⟨some 21, _, _, _, _, none⟩ (.string y.hold) rfl (by rfl) ?_ hS ?_
        ·intro wy hy
         have h0 : wy.cell? ⟨g, 0, none⟩ = some (.string y.hold) := hy.cell rfl
         clear hy
         go_simp
        simp only [pA, pB, pC, pD]
        refine rd1 2 ⟨some 22, _, _, _, _, none⟩ rfl (fun K hK => ?_)
        go_simp
        refine (hold10_any y.hold _ Z0.out).mono ?_
        rintro e v0 ⟨rfl, rfl⟩
        refine hK.out _ _ hS (fun hS => ?_)
        clear hK K
        rw [G0.out]
        refine ty 3 ⟨some 23, _, _, _, _, none⟩ (.bool false) rfl (by rfl) ?_ hS ?_
        ·intro wy hy
         clear hy
         go_simp
        simp only [pA, pB, pC, pD]
        refine ty 4 ⟨some 24, _, _, _, _, none⟩ (.bool false) rfl (by rfl) ?_ hS ?_
        ·intro wy hy
         clear hy
         go_simp
        simp only [pA, pB, pC, pD]
        refine ty 5 ⟨some 25, _, _, _, _, some (4, false)⟩ (.pointer (some ⟨g, 1, none⟩)) rfl (by rfl) ?_ hS ?_
        ·intro wy hy
         clear hy
         go_simp
        simp only [pA, pB, pC, pD]
        refine ty 6 ⟨some 26, _, _, _, _, some (4, false)⟩ (.string y.copy) rfl (by rfl) ?_ hS ?_
        ·intro wy hy
         have h0 : wy.cell? ⟨g, 1, none⟩ = some (.string y.copy) := hy.cell rfl
         clear hy
         go_simp
        simp only [pA, pB, pC, pD]
        refine rd1 7 ⟨some 27, _, _, _, _, some (4, false)⟩ rfl (fun K hK => ?_)
        go_simp
        refine (name10_any y.copy _ Z1.out).mono ?_
        rintro e v1 ⟨rfl, rfl⟩
        refine hK.out _ _ hS (fun hS => ?_)
        clear hK K
        rw [G1.out]
        refine ty 8 ⟨some 28, _, _, _, _, some (4, false)⟩ (.bool false) rfl (by rfl) ?_ hS ?_
        ·intro wy hy
         clear hy
         go_simp
        simp only [pA, pB, pC, pD]
        refine ty 9 ⟨some 29, _, _, _, _, none⟩ (.bool false) rfl (by rfl) ?_ hS ?_
        ·intro wy hy
         clear hy
         go_simp
        simp only [pA, pB, pC, pD]
        refine ty 10 ⟨some 30, _, _, _, _, none⟩ (.bool false) rfl (by rfl) ?_ hS ?_
        ·intro wy hy
         clear hy
         go_simp
        simp only [pA, pB, pC, pD]
        refine ty 11 ⟨some 31, _, _, _, _, some (10, false)⟩ (.pointer (some ⟨g, 3, none⟩)) rfl (by rfl) ?_ hS ?_
        ·intro wy hy
         clear hy
         go_simp
        simp only [pA, pB, pC, pD]
        refine ty 12 ⟨some 32, _, _, _, _, some (10, false)⟩ (.int .i64 y.at_) rfl (by rfl) ?_ hS ?_
        ·intro wy hy
         have h0 : wy.cell? ⟨g, 3, none⟩ = some (.int .i64 y.at_) := hy.cell rfl
         clear hy
         go_simp
        simp only [pA, pB, pC, pD]
        refine ty 13 ⟨some 33, _, _, _, _, some (10, false)⟩ (.int .i64 c) rfl (by rfl) ?_ hS ?_
        ·intro wy hy
         clear hy
         go_simp
        simp only [pA, pB, pC, pD]
        refine rd1 14 ⟨some 34, _, _, _, _, some (10, false)⟩ rfl (fun K hK => ?_)
        go_simp
        refine (in10_any y.at_ 0 c _).mono ?_
        rintro e v2 ⟨rfl, rfl⟩
        refine hK.out _ _ hS (fun hS => ?_)
        clear hK K
        rw [G2.out]
        refine ty 15 ⟨some 35, _, _, _, _, some (10, false)⟩ (.bool false) rfl (by rfl) ?_ hS ?_
        ·intro wy hy
         clear hy
         go_simp
        simp only [pA, pB, pC, pD]
        refine ty 16 ⟨some 36, _, _, _, _, none⟩ (.bool false) rfl (by rfl) ?_ hS ?_
        ·intro wy hy
         clear hy
         go_simp
        simp only [pA, pB, pC, pD]
        refine ty 17 ⟨some 37, _, _, _, _, none⟩ (.bool false) rfl (by rfl) ?_ hS ?_
        ·intro wy hy
         clear hy
         go_simp
        simp only [pA, pB, pC, pD]
        refine ty 18 ⟨some 38, _, _, _, _, some (17, false)⟩ (.pointer (some ⟨g, 2, none⟩)) rfl (by rfl) ?_ hS ?_
        ·intro wy hy
         clear hy
         go_simp
        simp only [pA, pB, pC, pD]
        refine ty 19 ⟨some 39, _, _, _, _, some (17, false)⟩ (.int .i64 y.first) rfl (by rfl) ?_ hS ?_
        ·intro wy hy
         have h0 : wy.cell? ⟨g, 2, none⟩ = some (.int .i64 y.first) := hy.cell rfl
         clear hy
         go_simp
        simp only [pA, pB, pC, pD]
        refine ty 20 ⟨some 40, _, _, _, _, some (17, false)⟩ (.pointer (some ⟨g, 3, none⟩)) rfl (by rfl) ?_ hS ?_
        ·intro wy hy
         clear hy
         go_simp
        simp only [pA, pB, pC, pD]
        refine ty 21 ⟨some 41, _, _, _, _, some (17, false)⟩ (.int .i64 y.at_) rfl (by rfl) ?_ hS ?_
        ·intro wy hy
         have h0 : wy.cell? ⟨g, 3, none⟩ = some (.int .i64 y.at_) := hy.cell rfl
         clear hy
         go_simp
        simp only [pA, pB, pC, pD]
        refine rd1 22 ⟨some 42, _, _, _, _, some (17, false)⟩ rfl (fun K hK => ?_)
        go_simp
        refine (in10_any y.first 0 y.at_ _).mono ?_
        rintro e v3 ⟨rfl, rfl⟩
        refine hK.out _ _ hS (fun hS => ?_)
        clear hK K
        rw [G3.out]
        refine ty 23 ⟨some 43, _, _, _, _, some (17, false)⟩ (.bool false) rfl (by rfl) ?_ hS ?_
        ·intro wy hy
         clear hy
         go_simp
        simp only [pA, pB, pC, pD]
        refine ty 24 ⟨some 44, _, _, _, _, none⟩ (.bool false) rfl (by rfl) ?_ hS ?_
        ·intro wy hy
         clear hy
         go_simp
        simp only [pA, pB, pC, pD]
        refine ty 25 ⟨some 45, _, _, _, _, none⟩ (.bool false) rfl (by rfl) ?_ hS ?_
        ·intro wy hy
         clear hy
         go_simp
        simp only [pA, pB, pC, pD]
        refine ty 26 ⟨some 46, _, _, _, _, some (25, false)⟩ (.int .i64 ((0 : Nat) : Int)) rfl (by rfl) ?_ hS ?_
        ·intro wy hy
         clear hy
         go_simp
        simp only [pA, pB, pC, pD]
        refine ty 27 ⟨some 47, _, _, _, _, some (25, false)⟩ (.bool false) rfl (by rfl) ?_ hS ?_
        ·intro wy hy
         clear hy
         go_simp
        simp only [pA, pB, pC, pD]
        refine ty 28 ⟨some 48, _, _, _, _, some (25, false)⟩ (.bool false) rfl (by rfl) ?_ hS ?_
        ·intro wy hy
         clear hy
         go_simp
        simp only [pA, pB, pC, pD]
        refine tk 29 ⟨some 49, _, _, _, _, some (28, true)⟩ undef rfl (Or.inr ⟨by rfl, rfl⟩) hS ?_
        simp only [pA, pB, pC, pD]
        refine tk 30 ⟨some 50, _, _, _, _, some (28, true)⟩ undef rfl (Or.inr ⟨by rfl, rfl⟩) hS ?_
        simp only [pA, pB, pC, pD]
        refine tk 31 ⟨some 51, _, _, _, _, some (28, true)⟩ undef rfl (Or.inr ⟨by rfl, rfl⟩) hS ?_
        simp only [pA, pB, pC, pD]
        refine tk 32 ⟨some 52, _, _, _, _, some (28, true)⟩ undef rfl (Or.inr ⟨by rfl, rfl⟩) hS ?_
        simp only [pA, pB, pC, pD]
        refine tk 33 ⟨some 53, _, _, _, _, some (28, true)⟩ undef rfl (Or.inr ⟨by rfl, rfl⟩) hS ?_
        simp only [pA, pB, pC, pD]
        refine tk 34 ⟨some 54, _, _, _, _, some (28, true)⟩ undef rfl (Or.inr ⟨by rfl, rfl⟩) hS ?_
        simp only [pA, pB, pC, pD]
        refine tk 35 ⟨some 55, _, _, _, _, some (28, true)⟩ undef rfl (Or.inr ⟨by rfl, rfl⟩) hS ?_
        simp only [pA, pB, pC, pD]
        refine tk 36 ⟨some 56, _, _, _, _, some (28, true)⟩ undef rfl (Or.inr ⟨by rfl, rfl⟩) hS ?_
        simp only [pA, pB, pC, pD]
        refine tk 37 ⟨some 57, _, _, _, _, some (28, true)⟩ undef rfl (Or.inr ⟨by rfl, rfl⟩) hS ?_
        simp only [pA, pB, pC, pD]
        refine ty 38 ⟨some 58, _, _, _, _, some (25, false)⟩ (.bool false) rfl (by rfl) ?_ hS ?_
        ·intro wy hy
         clear hy
         go_simp
        simp only [pA, pB, pC, pD]
        refine ty 39 ⟨some 59, _, _, _, _, none⟩ (.bool false) rfl (by rfl) ?_ hS ?_
        ·intro wy hy
         clear hy
         go_simp
        simp only [pA, pB, pC, pD]
        refine wpAnyH_done (by kernel_rfl) ?_ _
        clear hS
        go_wp2_with fail
        go_roundw
        case rel => exact ⟨0 + 1, by omega, by go_num, HN2, HA2, hB5⟩
        case measure => simp [intOf]; omega
       | succ m =>
        obtain ⟨x, hx⟩ : ∃ x, xs[m]? = some x := ⟨xs[m], List.getElem?_eq_getElem (by omega)⟩
        obtain ⟨b', o', e', _, _, hcx⟩ := HIR.out.at hx
        cases e'
        have HRX := Hid.intro (aks_range hcx)
        have HQA := Hid.intro (ascAt_at (ns := xs.map (·.hold)) (m := m) (s := x.hold) (t := y.hold) (by rw [List.getElem?_map, hx]; rfl) (by rw [List.getElem?_map, HYY.out]; rfl))
        generalize hq : Op.bytesLess x.hold.toList y.hold.toList = Q at HQA
        have HQ := Hid.intro hq
        clear hq hx hcx HIR
        go_wp2_with fail
        refine wp_region_held_drew (S := fun wy => Blk g #[.string y.hold, .string y.copy, .int .i64 y.first, .int .i64 y.at_] 57 wy ∧ wy.rangeAt b (o + m * 4) [.string x.hold, .string x.copy, .int .i64 x.first, .int .i64 x.at_]) (by kernel_rfl) ⟨HK4.out.drew, range_drew HRX.out⟩ (fun hS => ?_)
        have hB5 : Below w.heap.size w w4.drew := hB4.trans ((Below.refl w.heap.size w4).drew)
        generalize w4.drew = w5 at *
        refine ty 0 ⟨some 20, _, _, _, _, none⟩ (.pointer (some ⟨g, 0, none⟩)) rfl (by rfl) ?_ hS ?_
        ·intro wy hy
         clear hy
         go_simp
        simp only [pA, pB, pC, pD]
        refine ty 1 ⟨some 21, _, _, _, _, none⟩ (.string y.hold) rfl (by rfl) ?_ hS ?_
        ·intro wy hy
         have h0 : wy.cell? ⟨g, 0, none⟩ = some (.string y.hold) := hy.1.cell rfl
         clear hy
         go_simp
        simp only [pA, pB, pC, pD]
        refine rd1 2 ⟨some 22, _, _, _, _, none⟩ rfl (fun K hK => ?_)
        go_simp
        refine (hold10_any y.hold _ Z0.out).mono ?_
        rintro e v0 ⟨rfl, rfl⟩
        refine hK.out _ _ hS (fun hS => ?_)
        clear hK K
        rw [G0.out]
        refine ty 3 ⟨some 23, _, _, _, _, none⟩ (.bool false) rfl (by rfl) ?_ hS ?_
        ·intro wy hy
         clear hy
         go_simp
        simp only [pA, pB, pC, pD]
        refine ty 4 ⟨some 24, _, _, _, _, none⟩ (.bool false) rfl (by rfl) ?_ hS ?_
        ·intro wy hy
         clear hy
         go_simp
        simp only [pA, pB, pC, pD]
        refine ty 5 ⟨some 25, _, _, _, _, some (4, false)⟩ (.pointer (some ⟨g, 1, none⟩)) rfl (by rfl) ?_ hS ?_
        ·intro wy hy
         clear hy
         go_simp
        simp only [pA, pB, pC, pD]
        refine ty 6 ⟨some 26, _, _, _, _, some (4, false)⟩ (.string y.copy) rfl (by rfl) ?_ hS ?_
        ·intro wy hy
         have h0 : wy.cell? ⟨g, 1, none⟩ = some (.string y.copy) := hy.1.cell rfl
         clear hy
         go_simp
        simp only [pA, pB, pC, pD]
        refine rd1 7 ⟨some 27, _, _, _, _, some (4, false)⟩ rfl (fun K hK => ?_)
        go_simp
        refine (name10_any y.copy _ Z1.out).mono ?_
        rintro e v1 ⟨rfl, rfl⟩
        refine hK.out _ _ hS (fun hS => ?_)
        clear hK K
        rw [G1.out]
        refine ty 8 ⟨some 28, _, _, _, _, some (4, false)⟩ (.bool false) rfl (by rfl) ?_ hS ?_
        ·intro wy hy
         clear hy
         go_simp
        simp only [pA, pB, pC, pD]
        refine ty 9 ⟨some 29, _, _, _, _, none⟩ (.bool false) rfl (by rfl) ?_ hS ?_
        ·intro wy hy
         clear hy
         go_simp
        simp only [pA, pB, pC, pD]
        refine ty 10 ⟨some 30, _, _, _, _, none⟩ (.bool false) rfl (by rfl) ?_ hS ?_
        ·intro wy hy
         clear hy
         go_simp
        simp only [pA, pB, pC, pD]
        refine ty 11 ⟨some 31, _, _, _, _, some (10, false)⟩ (.pointer (some ⟨g, 3, none⟩)) rfl (by rfl) ?_ hS ?_
        ·intro wy hy
         clear hy
         go_simp
        simp only [pA, pB, pC, pD]
        refine ty 12 ⟨some 32, _, _, _, _, some (10, false)⟩ (.int .i64 y.at_) rfl (by rfl) ?_ hS ?_
        ·intro wy hy
         have h0 : wy.cell? ⟨g, 3, none⟩ = some (.int .i64 y.at_) := hy.1.cell rfl
         clear hy
         go_simp
        simp only [pA, pB, pC, pD]
        refine ty 13 ⟨some 33, _, _, _, _, some (10, false)⟩ (.int .i64 c) rfl (by rfl) ?_ hS ?_
        ·intro wy hy
         clear hy
         go_simp
        simp only [pA, pB, pC, pD]
        refine rd1 14 ⟨some 34, _, _, _, _, some (10, false)⟩ rfl (fun K hK => ?_)
        go_simp
        refine (in10_any y.at_ 0 c _).mono ?_
        rintro e v2 ⟨rfl, rfl⟩
        refine hK.out _ _ hS (fun hS => ?_)
        clear hK K
        rw [G2.out]
        refine ty 15 ⟨some 35, _, _, _, _, some (10, false)⟩ (.bool false) rfl (by rfl) ?_ hS ?_
        ·intro wy hy
         clear hy
         go_simp
        simp only [pA, pB, pC, pD]
        refine ty 16 ⟨some 36, _, _, _, _, none⟩ (.bool false) rfl (by rfl) ?_ hS ?_
        ·intro wy hy
         clear hy
         go_simp
        simp only [pA, pB, pC, pD]
        refine ty 17 ⟨some 37, _, _, _, _, none⟩ (.bool false) rfl (by rfl) ?_ hS ?_
        ·intro wy hy
         clear hy
         go_simp
        simp only [pA, pB, pC, pD]
        refine ty 18 ⟨some 38, _, _, _, _, some (17, false)⟩ (.pointer (some ⟨g, 2, none⟩)) rfl (by rfl) ?_ hS ?_
        ·intro wy hy
         clear hy
         go_simp
        simp only [pA, pB, pC, pD]
        refine ty 19 ⟨some 39, _, _, _, _, some (17, false)⟩ (.int .i64 y.first) rfl (by rfl) ?_ hS ?_
        ·intro wy hy
         have h0 : wy.cell? ⟨g, 2, none⟩ = some (.int .i64 y.first) := hy.1.cell rfl
         clear hy
         go_simp
        simp only [pA, pB, pC, pD]
        refine ty 20 ⟨some 40, _, _, _, _, some (17, false)⟩ (.pointer (some ⟨g, 3, none⟩)) rfl (by rfl) ?_ hS ?_
        ·intro wy hy
         clear hy
         go_simp
        simp only [pA, pB, pC, pD]
        refine ty 21 ⟨some 41, _, _, _, _, some (17, false)⟩ (.int .i64 y.at_) rfl (by rfl) ?_ hS ?_
        ·intro wy hy
         have h0 : wy.cell? ⟨g, 3, none⟩ = some (.int .i64 y.at_) := hy.1.cell rfl
         clear hy
         go_simp
        simp only [pA, pB, pC, pD]
        refine rd1 22 ⟨some 42, _, _, _, _, some (17, false)⟩ rfl (fun K hK => ?_)
        go_simp
        refine (in10_any y.first 0 y.at_ _).mono ?_
        rintro e v3 ⟨rfl, rfl⟩
        refine hK.out _ _ hS (fun hS => ?_)
        clear hK K
        rw [G3.out]
        refine ty 23 ⟨some 43, _, _, _, _, some (17, false)⟩ (.bool false) rfl (by rfl) ?_ hS ?_
        ·intro wy hy
         clear hy
         go_simp
        simp only [pA, pB, pC, pD]
        refine ty 24 ⟨some 44, _, _, _, _, none⟩ (.bool false) rfl (by rfl) ?_ hS ?_
        ·intro wy hy
         clear hy
         go_simp
        simp only [pA, pB, pC, pD]
        refine ty 25 ⟨some 45, _, _, _, _, none⟩ (.bool false) rfl (by rfl) ?_ hS ?_
        ·intro wy hy
         clear hy
         go_simp
        simp only [pA, pB, pC, pD]
        refine ty 26 ⟨some 46, _, _, _, _, some (25, false)⟩ (.int .i64 ((m + 1 : Nat) : Int)) rfl (by rfl) ?_ hS ?_
        ·intro wy hy
         clear hy
         go_simp
        simp only [pA, pB, pC, pD]
        refine ty 27 ⟨some 47, _, _, _, _, some (25, false)⟩ (.bool true) rfl (by rfl) ?_ hS ?_
        ·intro wy hy
         clear hy
         go_simp
        simp only [pA, pB, pC, pD]
        refine ty 28 ⟨some 48, _, _, _, _, some (25, false)⟩ (.bool true) rfl (by rfl) ?_ hS ?_
        ·intro wy hy
         clear hy
         go_simp
        simp only [pA, pB, pC, pD]
        refine ty 29 ⟨some 49, _, _, _, _, some (28, true)⟩ (.slice (some ⟨b, o, none⟩) xs.length cap) rfl (by rfl) ?_ hS ?_
        ·intro wy hy
         clear hy
         go_simp
        simp only [pA, pB, pC, pD]
        refine ty 30 ⟨some 50, _, _, _, _, some (28, true)⟩ (.int .i64 ((m + 1 : Nat) : Int)) rfl (by rfl) ?_ hS ?_
        ·intro wy hy
         clear hy
         go_simp
        simp only [pA, pB, pC, pD]
        refine ty 31 ⟨some 51, _, _, _, _, some (28, true)⟩ (.int .i64 (m : Int)) rfl (by rfl) ?_ hS ?_
        ·intro wy hy
         clear hy
         go_simp; rw [IntKind.wrap_i64]; omega
        simp only [pA, pB, pC, pD]
        refine ty 32 ⟨some 52, _, _, _, _, some (28, true)⟩ (.pointer (some ⟨b, o + m * 4, none⟩)) rfl (by rfl) ?_ hS ?_
        ·intro wy hy
         clear hy
         first | (go_simp; done) | (go_simp; intro hh; omega)
        simp only [pA, pB, pC, pD]
        refine ty 33 ⟨some 53, _, _, _, _, some (28, true)⟩ (.pointer (some ⟨b, o + m * 4, none⟩)) rfl (by rfl) ?_ hS ?_
        ·intro wy hy
         clear hy
         go_simp
        simp only [pA, pB, pC, pD]
        refine ty 34 ⟨some 54, _, _, _, _, some (28, true)⟩ (.string x.hold) rfl (by rfl) ?_ hS ?_
        ·intro wy hy
         have h0 := hy.2 0 _ rfl
         simp only [Nat.add_zero] at h0
         clear hy
         go_simp
        simp only [pA, pB, pC, pD]
        refine ty 35 ⟨some 55, _, _, _, _, some (28, true)⟩ (.pointer (some ⟨g, 0, none⟩)) rfl (by rfl) ?_ hS ?_
        ·intro wy hy
         clear hy
         go_simp
        simp only [pA, pB, pC, pD]
        refine ty 36 ⟨some 56, _, _, _, _, some (28, true)⟩ (.string y.hold) rfl (by rfl) ?_ hS ?_
        ·intro wy hy
         have h0 : wy.cell? ⟨g, 0, none⟩ = some (.string y.hold) := hy.1.cell rfl
         clear hy
         go_simp
        simp only [pA, pB, pC, pD]
        refine ty 37 ⟨some 57, _, _, _, _, some (28, true)⟩ (.bool (!Q)) rfl (by rfl) ?_ hS ?_
        ·intro wy hy
         clear hy
         go_simp; rw [HQ.out]
        simp only [pA, pB, pC, pD]
        refine ty 38 ⟨some 58, _, _, _, _, some (25, false)⟩ (.bool (!Q)) rfl (by rfl) ?_ hS ?_
        ·intro wy hy
         clear hy
         go_simp
        simp only [pA, pB, pC, pD]
        refine ty 39 ⟨some 59, _, _, _, _, none⟩ (.bool (!Q)) rfl (by rfl) ?_ hS ?_
        ·intro wy hy
         clear hy
         go_simp
        simp only [pA, pB, pC, pD]
        refine wpAnyH_done (by kernel_rfl) ?_ _
        clear hS
        cases Q with
        | false =>
         have HE := Hid.intro (aksB_asc (c := c) hlt HQA.out)
         go_wp2_with fail
         go_ret
         exact ⟨ret_bool HE.out.symm, hB5⟩
        | true =>
         have HA2 : Hid (ascTo (xs.map (·.hold)) (m + 1 + 1) = true) := by show _ = _; rw [ascTo, hA.out, HQA.out]; rfl
         go_wp2_with fail
         go_roundw
         case rel => exact ⟨m + 1 + 1, by omega, by go_num, HN2, HA2, hB5⟩
         case measure => simp [intOf]; omega

theorem toList_inj {s t : ByteArray} (h : s.toList = t.toList) : s = t := by
 rw [ByteArray.toList_eq, ByteArray.toList_eq] at h
 obtain ⟨⟨a⟩⟩ := s
 obtain ⟨⟨b⟩⟩ := t
 simp at h
 rw [h]

def akI (h : ByteArray) (xs : List Aks) : Option Nat := xs.findIdx? (fun a => decide (a.hold = h))

theorem akI_at {h : ByteArray} {xs : List Aks} {k : Nat} {x : Aks} (hx : xs[k]? = some x) (e : x.hold = h) (hno : ∀ (j : Nat) y, j < k → xs[j]? = some y → y.hold ≠ h) : akI h xs = some k := by
 unfold akI
 rw [List.findIdx?_eq_some_iff_getElem]
 have hk : k < xs.length := lt_of_some hx
 refine ⟨hk, ?_, fun j hj => ?_⟩
 ·have : xs[k] = x := by have := List.getElem?_eq_getElem hk; rw [hx] at this; exact (Option.some.inj this).symm
  simp [this, e]
 ·simp
  exact hno j _ hj (List.getElem?_eq_getElem (by omega))

theorem akI_no {h : ByteArray} {xs : List Aks} (hno : ∀ (j : Nat) y, j < xs.length → xs[j]? = some y → y.hold ≠ h) : akI h xs = none := by
 unfold akI
 rw [List.findIdx?_eq_none_iff]
 intro y hy
 obtain ⟨j, hj, e⟩ := List.getElem_of_mem hy
 simp
 exact hno j y hj (by rw [List.getElem?_eq_getElem hj, e])

def akN : Option Nat → Int
 | none => -1
 | some k => (k : Int)

set_option maxHeartbeats 2000000 in
set_option maxRecDepth 100000 in
theorem ask13_any (h : ByteArray) (xs : List Aks) (a : Option Addr) (cap lo : Nat) (w : World) (hin : SliceC AksC 4 lo w a xs) (hsm : xs.length ≤ 1048576) :
  Calls Try.prog 31 #[.slice a xs.length cap, .string h] w fun e w' => e = .returned (.int .i64 (akN (akI h xs))) ∧ Below w.heap.size w w' := by
 have HI : Hid (SliceC AksC 4 lo w a xs) := hin
 clear hin
 go_enter Try.func31, Try.ntmps31
 go_wp2_with fail
 go_loopw [5] (fun i wr => ∃ k : Nat, k ≤ xs.length ∧ i = .int .i64 k ∧ Hid (∀ (j : Nat) x, j < k → xs[j]? = some x → x.hold ≠ h) ∧ Below w.heap.size w wr) (fun i _ => xs.length - (intOf i).toNat)
 case atStart => exact ⟨0, Nat.zero_le _, rfl, fun j q h => by omega, by go_grown⟩
 case round =>
  obtain ⟨k, hk, rfl, hN, hB⟩ := hrel
  by_cases hlt : k < xs.length
  case neg =>
   have hke : k = xs.length := by omega
   subst hke
   have HE := Hid.intro (akI_no hN.out)
   go_wp2_with fail
   go_ret
   rw [HE.out]
   exact ⟨rfl, hB⟩
  ·obtain ⟨y, hy⟩ : ∃ y, xs[k]? = some y := ⟨xs[k], List.getElem?_eq_getElem hlt⟩
   obtain ⟨b, o, rfl, _, hbl, hc⟩ := (HI.out.below AksC.holds hB (Nat.le_refl _)).at hy
   obtain ⟨q0, _, _, _, z0, z1⟩ := hc
   simp only [Nat.add_zero] at q0
   have HYY := Hid.intro hy
   clear z0 z1 hy
   cases hq : (y.hold.toList == h.toList) with
   | true =>
    have HE := Hid.intro (akI_at HYY.out (toList_inj (eq_of_beq hq)) hN.out)
    go_wp2_with fail
    go_ret
    rw [HE.out]
    exact ⟨rfl, hB⟩
   | false =>
    have HN2 : Hid (∀ (j : Nat) z, j < k + 1 → xs[j]? = some z → z.hold ≠ h) := fun j z hj hz => by
     by_cases e : j = k
     ·subst e
      have := HYY.out.symm.trans hz
      cases this
      intro e2
      rw [e2] at hq
      simp at hq
     ·exact hN.out j z (by omega) hz
    go_wp2_with fail
    go_roundw
    case rel => exact ⟨k + 1, by omega, by go_num, HN2, hB⟩
    case measure => simp [intOf]; omega

end Go.Proofs.Ytnifmiacobfplaa
