import Derived.Test.YtkcpcbejaihpiaaGreatTkw
import Derived.Test.YtkcpcbejaihpiaaGreatSc2
namespace Go.Proofs.YtkcpcbejaihpiaaGreat
open Go.RowKit

abbrev CpX (x : Sbk) : Type := { c : Scp // c ∈ x.copies }

set_option maxHeartbeats 8000000 in
set_option maxRecDepth 100000 in
theorem copies_stopsK (p B1 B2 : Nat) (x : Sbk) (b o c2 : Nat) (s : ByteArray) (lo : Nat) (W0 w : World) (Kp : World → World → Prop) (C : World → Prop) (hC1 : ∀ W, C W → CpIn p B1 B2 b o c2 x s W) (hC2 : ∀ A B, C A → Below A.heap.size A B → C B) (hC3 : ∀ A B, C A → Kp A B → C B) (hK1 : ∀ A B, Kp A B → Below W0.heap.size A B)
  (hW : Below W0.heap.size W0 w) (n2 : SliceC ScpC 7 lo W0 (some ⟨b, o, none⟩) x.copies) (hI : C w) (l2 : x.copies.length ≤ 200) (hcap : x.copies.length ≤ c2) (hv : ∀ (j : Nat) u v, x.copies[j]? = some u → x.copies[j + 1]? = some v → ahB u v = true) :
  SeqStopsK Fence.wide 5 Tryz.prog 113 #[.pointer (some ⟨B1, 0, none⟩), .pointer (some ⟨B2, 0, none⟩)] (fun c : CpX x => cpEnc c.1) Kp (fun xs => xs.map (·.1) = x.copies.filter (fun c => decide (c.service = s))) (fun _ => True) 200 w := by
 intro l J Jx W hbW hJ _ hY h0
 refine callsIn_wide.2 ?_
 have N2 := Hid.intro n2
 have HV := Hid.intro hv
 have HW : Hid (Below W0.heap.size W0 W) := hW.trans (hbW.mono hW.size)
 have HI := Hid.intro (hC2 _ _ hI hbW)
 have HY := Hid.intro hY
 have HJ := Hid.intro hJ
 have H0 := Hid.intro h0
 clear n2 hW hI hbW hJ hY h0 hv
 show Calls Tryz.prog 113 #[.func (.yield l) #[] #[], .pointer (some ⟨B1, 0, none⟩), .pointer (some ⟨B2, 0, none⟩)] W _
 go_enter Tryz.func113, Tryz.ntmps113
 go_wp2_with fail
 refine wp_region_held_drew (S := C) (by kernel_rfl) (hC2 _ _ HI.out (Below.refl _ _).drew) (fun hS => ?_)
 have HW2 : Hid (Below W0.heap.size W0 W.drew) := HW.out.drew
 have H2 : Hid (J [] W.drew) := HJ.out [] W _ none H0.out ⟨rfl, rfl, rfl, Nat.le_refl _, fun _ _ _ => rfl⟩ (fun r e => by cases e)
 have hs2 : W.heap.size ≤ W.drew.heap.size := Nat.le_refl _
 clear HI HW H0
 generalize hwd : W.drew = wd at *
 clear hwd
 refine ty 0 ⟨some 9, _, _, _, _, none⟩ (.pointer (some ⟨p, 0, none⟩)) rfl (by rfl) ?_ hS ?_
 ·intro wy hy
  have h0 := (hC1 _ hy).1
  clear hy
  go_simp
 simp only [pA,pB,pC,pD]
 refine tz 1 10 (.pointer (some ⟨p, 0, none⟩)) rfl hS ?_
 simp only [pA,pB,pC,pD]
 refine tz 2 11 (.pointer (some ⟨p, 0, none⟩)) rfl hS ?_
 simp only [pA,pB,pC,pD]
 refine tz 3 12 (.pointer (some ⟨p, 2, none⟩)) rfl hS ?_
 simp only [pA,pB,pC,pD]
 refine ty 4 ⟨some 13, _, _, _, _, none⟩ (.slice (some ⟨b, o, none⟩) x.copies.length c2) rfl (by rfl) ?_ hS ?_
 ·intro wy hy
  have h0 := (hC1 _ hy).2.2
  clear hy
  go_simp
 simp only [pA,pB,pC,pD]
 refine ty 5 ⟨some 14, _, _, _, _, none⟩ (.string s) rfl (by rfl) ?_ hS ?_
 ·intro wy hy
  have h0 := (hC1 _ hy).2.1
  clear hy
  go_simp
 simp only [pA,pB,pC,pD]
 refine rd1 6 ⟨some 15, _, _, _, _, none⟩ rfl (fun K hK => ?_)
 go_simp
 refine (bsCopies_any x.copies s (some ⟨b, o, none⟩) c2 lo _ (N2.out.below ScpC.holds HW2.out (Nat.le_refl _)) (by omega) (asc_mono HV.out s)).mono ?_
 rintro e w3 ⟨i, q, rfl, hil, hA, hC, hb3⟩
 have HW3 := Hid.intro (HW2.out.trans (hb3.mono HW2.out.size))
 have H3 : Hid (J [] w3) := HJ.out [] wd _ none H2.out (grown_below hb3) (fun r e => by cases e)
 have hs3 : W.heap.size ≤ w3.heap.size := Nat.le_trans hs2 hb3.size
 have HA := Hid.intro hA
 have HC := Hid.intro hC
 refine hK.out _ _ (hC2 _ _ hS hb3) (fun hS => ?_)
 clear hK K
 clear hb3 HW2 H2 hs2 hA hC
 refine tz 7 8 (.tuple #[.int .i64 i, .bool q]) rfl hS ?_
 simp only [pA,pB,pC,pD]
 refine tz 8 16 (.int .i64 i) rfl hS ?_
 simp only [pA,pB,pC,pD]
 refine tz 9 17 (.bool q) rfl hS ?_
 simp only [pA,pB,pC,pD]
 refine tz 10 4 (.int .i64 i) rfl hS ?_
 simp only [pA,pB,pC,pD]
 refine tz 11 5 (.bool q) rfl hS ?_
 simp only [pA,pB,pC,pD]
 have HI3 := Hid.intro hS
 refine wpAnyH_done (by kernel_rfl) ?_ _
 clear hS
 have i0 := (hC1 _ HI3.out).1
 have i1 := (hC1 _ HI3.out).2.1
 have i2 := (hC1 _ HI3.out).2.2
 have hi1 : (i : Int) ≤ (x.copies.length : Int) := by omega
 by_cases hie : i = x.copies.length
 ·have HE : Hid ((([] : List (CpX x)).map (·.1)) = x.copies.filter (fun c => decide (c.service = s))) := by
   show _ = _
   rw [told_all (k := 0) HV.out HA.out HC.out (fun j u h => by omega) (.inl (by omega))]
   simp
  have hlz : x.copies.length - i = 0 := by omega
  go_wp2_with fail
  all_goals
   go_loopw [26] (fun v wr => v = .int .i64 0 ∧ wr = w3) (fun _ _ => 0)
   case atStart => exact ⟨rfl, rfl⟩
   case round =>
    obtain ⟨rfl, rfl⟩ := hrel
    go_wp2_with fail
    first | go_end0 | ((try simp only [Exit.inBlock, Exit.then]); refine bodyPost_ret (results_none rfl _ _ _) rfl ?_)
    exact ⟨⟨_, rfl⟩, Or.inl ⟨[], HE.out, H3.out⟩⟩
 have hlt : i < x.copies.length := by omega
 have hne : ¬ c2 = i := by omega
 have hin : (i : Int) < (x.copies.length : Int) := by omega
 have HIE := Hid.intro hlt
 go_wp2_with fail
 clear i0 i1 i2 hi1 hin hie hlt
 go_loopw [26] (fun v wr => ∃ (k : Nat) (pre : List (CpX x)), k ≤ x.copies.length - i ∧ v = .int .i64 k ∧ Hid (pre.map (·.1) = (x.copies.drop i).take k) ∧ Hid (∀ (j : Nat) u, j < k → x.copies[i + j]? = some u → u.service = s) ∧ Hid (J pre wr) ∧ Hid (C wr) ∧ Hid (Below W0.heap.size W0 wr) ∧ W.heap.size ≤ wr.heap.size) (fun v _ => x.copies.length - i - (intOf v).toNat)
 case atStart => exact ⟨0, [], Nat.zero_le _, rfl, (by show _ = _; simp), fun j u h => by omega, H3, HI3, HW3, hs3⟩
 case round =>
  clear H3 HI3 HW3 hs3
  obtain ⟨k, pre, hk, rfl, hP, hK, hJ, hI, hB, hws⟩ := hrel
  by_cases hlt : k < x.copies.length - i
  case neg =>
   have HE : Hid (pre.map (·.1) = x.copies.filter (fun c => decide (c.service = s))) := by
    show _ = _
    rw [told_all (k := k) HV.out HA.out HC.out hK.out (.inl (by omega))]
    exact hP.out
   go_wp2_with fail
   first | go_end0 | ((try simp only [Exit.inBlock, Exit.then]); refine bodyPost_ret (results_none rfl _ _ _) rfl ?_)
   exact ⟨⟨_, rfl⟩, Or.inl ⟨pre, HE.out, hJ.out⟩⟩
  obtain ⟨y, hy⟩ : ∃ y, x.copies[i + k]? = some y := ⟨x.copies[i + k]'(by omega), List.getElem?_eq_getElem (by omega)⟩
  obtain ⟨b', o', ea, _, hbl, hc⟩ := (N2.out.below ScpC.holds hB.out (Nat.le_refl _)).at hy
  cases ea
  have HRY : Hid (wr.rangeAt b (o + i * 7 + k * 7) [.string y.service, .int .i64 y.number, .int .i64 y.version, .int .i64 y.image, .int .i64 y.state, .bool y.ending, .string y.berth]) := by
   have h9 := rngScp hc
   rw [show o + (i + k) * 7 = o + i * 7 + k * 7 by omega] at h9
   exact h9
  have HYY := Hid.intro hy
  have hpl : pre.length < 200 := by have h9 := congrArg List.length hP.out; rw [List.length_map, List.length_take, List.length_drop] at h9; omega
  have HPL := Hid.intro hpl
  obtain ⟨yy, hyy⟩ : ∃ yy : CpX x, yy.1 = y := ⟨⟨y, List.mem_of_getElem? hy⟩, rfl⟩
  have HP2 : Hid ((pre ++ [yy]).map (·.1) = (x.copies.drop i).take (k + 1)) := by
   show _ = _
   rw [List.take_add_one, List.map_append, hP.out, List.getElem?_drop, hy]
   simp [hyy]
  have HYE := Hid.intro hyy
  clear hyy
  clear hc hy hpl
  have hza : Blk wr.heap.size #[.string ⟨#[]⟩, .int .i64 0, .int .i64 0, .int .i64 0, .int .i64 0, .bool false, .string ⟨#[]⟩] 86 (wr.alloc (Obj.cells #[.string ⟨#[]⟩, .int .i64 0, .int .i64 0, .int .i64 0, .int .i64 0, .bool false, .string ⟨#[]⟩] 86)) := Blk.alloc _ _ _
  have HTS : Hid ((wr.alloc (Obj.cells #[.string ⟨#[]⟩, .int .i64 0, .int .i64 0, .int .i64 0, .int .i64 0, .bool false, .string ⟨#[]⟩] 86)).there wr.heap.size 0 7) := hza.there
  obtain ⟨w5, HW5⟩ : ∃ w5, Hid (w5 = (wr.alloc (Obj.cells #[.string ⟨#[]⟩, .int .i64 0, .int .i64 0, .int .i64 0, .int .i64 0, .bool false, .string ⟨#[]⟩] 86)).setCells wr.heap.size 0 [.string y.service, .int .i64 y.number, .int .i64 y.version, .int .i64 y.image, .int .i64 y.state, .bool y.ending, .string y.berth]) := ⟨_, rfl⟩
  have HK5 : Hid (Blk wr.heap.size #[.string y.service, .int .i64 y.number, .int .i64 y.version, .int .i64 y.image, .int .i64 y.state, .bool y.ending, .string y.berth] 86 w5) := by
   show Blk _ _ _ _
   rw [HW5.out]
   exact hza.setAll #[.string y.service, .int .i64 y.number, .int .i64 y.version, .int .i64 y.image, .int .i64 y.state, .bool y.ending, .string y.berth] rfl
  have hbx : Below wr.heap.size wr w5 := by
   rw [HW5.out]
   exact below_setCells (Nat.le_refl _) _ _ _ ((Below.refl _ wr).alloc (Nat.le_refl _) _)
  have HJ5 : Hid (J pre w5) := HJ.out pre wr _ none hJ.out (grown_below hbx) (fun r e => by cases e)
  have HI5 := Hid.intro (hC2 _ _ hI.out (hbx))
  have HB5 : Hid (Below W0.heap.size W0 w5) := hB.out.trans (hbx.mono hB.out.size)
  have hws5 : W.heap.size ≤ w5.heap.size := Nat.le_trans hws hbx.size
  have ik : (k : Int) < ((x.copies.length - i : Nat) : Int) := by omega
  clear hza hbx hJ hI hB hws
  go_upto_region 4 with (first | (refine wpList_load_mid rfl 86 _ rfl b (o + i * 7 + k * 7) (by first | rfl | (simp [go_sem]; done)) [.string y.service, .int .i64 y.number, .int .i64 y.version, .int .i64 y.image, .int .i64 y.state, .bool y.ending, .string y.berth] _ HRY.out Tryz.underlying86 rfl isz_Scp ?_) | (refine wpList_store_to rfl 86 _ _ rfl wr.heap.size 0 #[.string y.service, .int .i64 y.number, .int .i64 y.version, .int .i64 y.image, .int .i64 y.state, .bool y.ending, .string y.berth] rfl rfl HTS.out isz_Scp (by simp [Value.oneCell']) w5 HW5.out ?_))
  clear HRY HTS HW5
  generalize wr.heap.size = g5 at *
  have y0 : w5.cell? ⟨g5, 0, none⟩ = some (.string y.service) := HK5.out.cell rfl
  have y1 : w5.cell? ⟨g5, 1, none⟩ = some (.int .i64 y.number) := HK5.out.cell rfl
  have y2 : w5.cell? ⟨g5, 2, none⟩ = some (.int .i64 y.version) := HK5.out.cell rfl
  have y3 : w5.cell? ⟨g5, 3, none⟩ = some (.int .i64 y.image) := HK5.out.cell rfl
  have y4 : w5.cell? ⟨g5, 4, none⟩ = some (.int .i64 y.state) := HK5.out.cell rfl
  have y5 : w5.cell? ⟨g5, 5, none⟩ = some (.bool y.ending) := HK5.out.cell rfl
  have y6 : w5.cell? ⟨g5, 6, none⟩ = some (.string y.berth) := HK5.out.cell rfl
  have d1 := (hC1 _ HI5.out).2.1
  by_cases hsv : y.service = s
  case neg =>
   have hts := bt_ne hsv
   have HE : Hid (pre.map (·.1) = x.copies.filter (fun c => decide (c.service = s))) := by
    show _ = _
    rw [told_all (k := k) HV.out HA.out HC.out hK.out (.inr ⟨y, HYY.out, hsv⟩)]
    exact hP.out
   go_wp2_with fail
   first | go_end0 | ((try simp only [Exit.inBlock, Exit.then]); refine bodyPost_ret (results_none rfl _ _ _) rfl ?_)
   exact ⟨⟨_, rfl⟩, Or.inl ⟨pre, HE.out, HJ5.out⟩⟩
  have hts := bt_eq hsv
  have HSV := Hid.intro hsv
  clear hsv
  obtain ⟨fn, tmps, assign, body, hy, hR⟩ := HY.out pre yy w5 HJ5.out HPL.out
  dsimp only [cpEnc] at hy
  rw [HYE.out] at hy
  have hR' := hR.mono (R' := fun e W' => ∃ q, e = .returned (.bool q) ∧ Hid ((q = true ∧ J (pre ++ [yy]) W' ∧ Kp w5 W') ∨ (q = false ∧ Jx (pre ++ [yy]) W'))) (by
   rintro e W' (⟨h1, h2, h3⟩ | ⟨h1, h2⟩)
   ·exact ⟨true, h1, Or.inl ⟨rfl, h2, h3⟩⟩
   ·exact ⟨false, h1, Or.inr ⟨rfl, h2⟩⟩)
  clear hR

  refine (wpIn_wide (n := 5)).1 ?_
  gi_wp2_with (refine hR'.mono ?_; rintro e W' ⟨q, rfl, hq⟩)
  clear hR' hy
  cases q with
  | true =>
   have HQ : Hid (J (pre ++ [yy]) W' ∧ Kp w5 W') := by
    rcases hq.out with h | h
    ·exact h.2
    ·cases h.1
   have HK2 : Hid (∀ (j : Nat) u, j < k + 1 → x.copies[i + j]? = some u → u.service = s) := fun j u hj hu => by
    by_cases e : j = k
    ·subst e
     have h9 := HYY.out.symm.trans hu
     cases h9
     exact HSV.out
    ·exact hK.out j u (by omega) hu
   clear hq
   go_wp2_with fail
   go_roundw
   case rel =>
    have hbt := HQ.out.2
    exact ⟨k + 1, _, by omega, by go_num, HP2, HK2, HQ.out.1, hC3 _ _ HI5.out hbt, HB5.out.trans (hK1 _ _ hbt), Nat.le_trans hws5 (hK1 _ _ hbt).size⟩
   case measure => simp [intOf]; omega
  | false =>
   have HQ : Hid (Jx (pre ++ [yy]) W') := by
    rcases hq.out with h | h
    ·cases h.1
    ·exact h.2
   clear hq
   go_wp2_with fail
   first | go_end0 | ((try simp only [Exit.inBlock, Exit.then]); refine bodyPost_ret (results_none rfl _ _ _) rfl ?_)
   exact ⟨⟨_, rfl⟩, Or.inr ⟨_, trivial, HQ.out⟩⟩

end Go.Proofs.YtkcpcbejaihpiaaGreat
