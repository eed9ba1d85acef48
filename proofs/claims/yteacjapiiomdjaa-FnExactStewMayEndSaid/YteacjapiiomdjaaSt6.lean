/-
  StewCountOf, by the specification. Made by mkst6.py.
-/
import Derived.Test.YteacjapiiomdjaaSt5
namespace Go.Proofs.Yteacjapiiomdjaa
open Go.RowKit

set_option maxHeartbeats 4000000 in
set_option maxRecDepth 100000 in
theorem specCount_any (x : Sbk) (a1 : Option Addr) (c1 : Nat) (a2 : Option Addr) (c2 : Nat) (a3 : Option Addr) (c3 : Nat) (lo : Nat) (s : ByteArray) (w : World) (n1 : SliceC SsvC 13 lo w a1 x.services) (n2 : SliceC ScpC 7 lo w a2 x.copies) (n3 : SliceC SbtC 2 lo w a3 x.berths) :
    Calls Try.prog 11 #[.agg #[.int .i64 x.now, .slice a1 x.services.length c1, .slice a2 x.copies.length c2, .slice a3 x.berths.length c3], .string s] w fun e w' => ∃ t : Sct, e = .returned (.agg #[.int .i64 t.live, .int .i64 t.ready, .int .i64 t.old, .int .i64 t.failed, .int .i64 t.ending]) ∧ (SVal x → t = cntS x s) ∧ (¬ SVal x → t = ⟨0, 0, 0, 0, 0⟩) ∧ Below w.heap.size w w' := by
  have HN1 := Hid.intro n1
  have HN2 := Hid.intro n2
  have HN3 := Hid.intro n3
  clear n1 n2 n3
  have HBa : Blk w.heap.size #[.int .i64 x.now, .slice a1 x.services.length c1, .slice a2 x.copies.length c2, .slice a3 x.berths.length c3] 33 (w.alloc (.cells #[.int .i64 x.now, .slice a1 x.services.length c1, .slice a2 x.copies.length c2, .slice a3 x.berths.length c3] 33)) := Blk.alloc _ _ _
  have HZ2 : Hid (Blk (w.heap.size + 1) #[.int .i64 0, .int .i64 0, .int .i64 0, .int .i64 0, .int .i64 0] 38 ((w.alloc (.cells #[.int .i64 x.now, .slice a1 x.services.length c1, .slice a2 x.copies.length c2, .slice a3 x.berths.length c3] 33)).alloc (.cells #[.int .i64 0, .int .i64 0, .int .i64 0, .int .i64 0, .int .i64 0] 38))) := by
    have := Blk.alloc (w.alloc (.cells #[.int .i64 x.now, .slice a1 x.services.length c1, .slice a2 x.copies.length c2, .slice a3 x.berths.length c3] 33)) #[.int .i64 0, .int .i64 0, .int .i64 0, .int .i64 0, .int .i64 0] 38
    show Blk _ _ _ _
    simpa using this
  have HB2 : Hid (Blk w.heap.size #[.int .i64 x.now, .slice a1 x.services.length c1, .slice a2 x.copies.length c2, .slice a3 x.berths.length c3] 33 ((w.alloc (.cells #[.int .i64 x.now, .slice a1 x.services.length c1, .slice a2 x.copies.length c2, .slice a3 x.berths.length c3] 33)).alloc (.cells #[.int .i64 0, .int .i64 0, .int .i64 0, .int .i64 0, .int .i64 0] 38))) := HBa.below ((Below.refl _ _).alloc (Nat.le_refl _) _) HBa.lt
  have hB2 : Below w.heap.size w ((w.alloc (.cells #[.int .i64 x.now, .slice a1 x.services.length c1, .slice a2 x.copies.length c2, .slice a3 x.berths.length c3] 33)).alloc (.cells #[.int .i64 0, .int .i64 0, .int .i64 0, .int .i64 0, .int .i64 0] 38)) := by go_grown
  clear HBa
  go_enter Try.func11, Try.ntmps11
  go_upto_region 1 with fail
  generalize (w.alloc (Obj.cells #[.int .i64 x.now, .slice a1 x.services.length c1, .slice a2 x.copies.length c2, .slice a3 x.berths.length c3] 33)).alloc (Obj.cells #[.int .i64 0, .int .i64 0, .int .i64 0, .int .i64 0, .int .i64 0] 38) = w2 at *
  have hr4 : w.heap.size ≤ w.heap.size + 1 := by omega
  generalize w.heap.size + 1 = pr at *
  go_wp2_with (refine wpList_load_mid rfl 33 _ rfl w.heap.size 0 rfl [.int .i64 x.now, .slice a1 x.services.length c1, .slice a2 x.copies.length c2, .slice a3 x.berths.length c3] _ HB2.out.rangeA Try.underlying33 rfl isz_Sbk ?_)
  refine (specSVal_any x a1 c1 a2 c2 a3 c3 lo _ (HN1.out.below SsvC.holds hB2 (Nat.le_refl _)) (HN2.out.below ScpC.holds hB2 (Nat.le_refl _)) (HN3.out.below SbtC.holds hB2 (Nat.le_refl _))).mono ?_
  rintro e w3 ⟨t, rfl, ht, hb⟩
  have HT := Hid.intro ht
  have HB3 := Hid.intro (HB2.out.below hb HB2.out.lt)
  have HZ3 := Hid.intro (HZ2.out.below hb HZ2.out.lt)
  have hB3 := hB2.trans (hb.mono hB2.size)
  clear hb ht HB2 HZ2 hB2
  cases t with
  | false =>
    have HRf : Hid ((w3.setCells pr 0 [.int .i64 0, .int .i64 0, .int .i64 0, .int .i64 0, .int .i64 0]).rangeAt pr 0 [.int .i64 0, .int .i64 0, .int .i64 0, .int .i64 0, .int .i64 0]) := World.rangeAt_setCells_same w3 pr 0 _ HZ3.out.there
    have HBf : Hid (Below w.heap.size w (w3.setCells pr 0 [.int .i64 0, .int .i64 0, .int .i64 0, .int .i64 0, .int .i64 0])) := below_setCells hr4 _ _ _ hB3
    obtain ⟨wf, HE⟩ : ∃ wf, Hid (wf = w3.setCells pr 0 [.int .i64 0, .int .i64 0, .int .i64 0, .int .i64 0, .int .i64 0]) := ⟨_, rfl⟩
    rw [← HE.out] at HRf HBf
    have HTS := Hid.intro HZ3.out.there
    go_wp2_with (refine wpList_store_to rfl 38 _ _ rfl pr 0 #[.int .i64 0, .int .i64 0, .int .i64 0, .int .i64 0, .int .i64 0] rfl rfl HTS.out isz_Sct (by simp [Value.oneCell']) wf HE.out ?_)
    exact bodyPost_ret (results_cell_mid rfl _ _ pr [.int .i64 0, .int .i64 0, .int .i64 0, .int .i64 0, .int .i64 0] _ rfl HRf.out Try.underlying38 rfl isz_Sct) rfl ⟨⟨0, 0, 0, 0, 0⟩, rfl, fun h => absurd (HT.out.2 h) (by simp), fun _ => rfl, HBf.out⟩
  | true =>
    have hv := HT.out.1 rfl
    have h1 := hv.l1
    have h2 := hv.l2
    have HV := Hid.intro hv
    clear hv
    go_wp2_with (refine wpList_load_mid rfl 33 _ rfl w.heap.size 0 rfl [.int .i64 x.now, .slice a1 x.services.length c1, .slice a2 x.copies.length c2, .slice a3 x.berths.length c3] _ HB3.out.rangeA Try.underlying33 rfl isz_Sbk ?_)
    refine (count19_any x a1 c1 a2 c2 a3 c3 lo s _ (HN1.out.below SsvC.holds hB3 (Nat.le_refl _)) (HN2.out.below ScpC.holds hB3 (Nat.le_refl _)) (by omega) (by omega)).mono ?_
    rintro e w4 ⟨rfl, hb⟩
    have HZ4 := Hid.intro (HZ3.out.below hb HZ3.out.lt)
    have hB4 := hB3.trans (hb.mono hB3.size)
    clear hb HZ3 hB3 HB3
    have HRf : Hid ((w4.setCells pr 0 [.int .i64 (cntS x s).live, .int .i64 (cntS x s).ready, .int .i64 (cntS x s).old, .int .i64 (cntS x s).failed, .int .i64 (cntS x s).ending]).rangeAt pr 0 [.int .i64 (cntS x s).live, .int .i64 (cntS x s).ready, .int .i64 (cntS x s).old, .int .i64 (cntS x s).failed, .int .i64 (cntS x s).ending]) := World.rangeAt_setCells_same w4 pr 0 _ HZ4.out.there
    have HBf : Hid (Below w.heap.size w (w4.setCells pr 0 [.int .i64 (cntS x s).live, .int .i64 (cntS x s).ready, .int .i64 (cntS x s).old, .int .i64 (cntS x s).failed, .int .i64 (cntS x s).ending])) := below_setCells hr4 _ _ _ hB4
    obtain ⟨wf, HE⟩ : ∃ wf, Hid (wf = w4.setCells pr 0 [.int .i64 (cntS x s).live, .int .i64 (cntS x s).ready, .int .i64 (cntS x s).old, .int .i64 (cntS x s).failed, .int .i64 (cntS x s).ending]) := ⟨_, rfl⟩
    rw [← HE.out] at HRf HBf
    have HTS := Hid.intro HZ4.out.there
    go_wp2_with (refine wpList_store_to rfl 38 _ _ rfl pr 0 #[.int .i64 (cntS x s).live, .int .i64 (cntS x s).ready, .int .i64 (cntS x s).old, .int .i64 (cntS x s).failed, .int .i64 (cntS x s).ending] rfl rfl HTS.out isz_Sct (by simp [Value.oneCell']) wf HE.out ?_)
    exact bodyPost_ret (results_cell_mid rfl _ _ pr [.int .i64 (cntS x s).live, .int .i64 (cntS x s).ready, .int .i64 (cntS x s).old, .int .i64 (cntS x s).failed, .int .i64 (cntS x s).ending] _ rfl HRf.out Try.underlying38 rfl isz_Sct) rfl ⟨cntS x s, rfl, fun _ => rfl, fun h => absurd HV.out h, HBf.out⟩

end Go.Proofs.Yteacjapiiomdjaa
