/-
  The law of MateNewWorld. Made by mklnw.py.
-/
import Derived.Test.YtebcocejgenadaaGreatNwl
import Derived.Test.YtebcocejgenadaaGreatNwj
namespace Go.Proofs.YtebcocejgenadaaGreat
open Go.RowKit

theorem okN_len (ns : List ByteArray) : (okN ns).length ≤ 4 := by
  unfold okN
  split
  next h => have := (ok_four h).2; rwa [nmL_len] at this
  next => exact Nat.zero_le _

theorem sz_okN {ns : List ByteArray} (h : wS ByteArray.size ns ≤ 1048576) : SzNm (nmL (okN ns)) 1048576 := by
  intro x hx
  unfold okN at hx
  split at hx
  next =>
    obtain ⟨n, hn, rfl⟩ := List.mem_map.1 hx
    have := wS_mem (f := ByteArray.size) hn
    exact ⟨Nat.le_trans this h, Nat.le_trans this h⟩
  next => cases hx

theorem w_okN {ns : List ByteArray} (h : wS ByteArray.size ns ≤ 1048576) : wS ByteArray.size ((nmL (okN ns)).map (·.name)) ≤ 1048576 := by
  have e : (nmL (okN ns)).map (·.name) = okN ns := by
    unfold nmL
    rw [List.map_map]
    exact List.map_id _
  rw [e]
  unfold okN
  split
  · exact h
  · exact Nat.zero_le _

theorem markX_any (ns : List ByteArray) (g q lo hi : Nat) (w5 w : World) (hin : SliceC StrC 1 lo w (some ⟨g, 0, none⟩) ns) (h5 : SliceC StrC 1 lo w5 (some ⟨g, 0, none⟩) ns) (hhi : w5.heap.size = hi) (hlo : 0 < lo) (hl : ns.length ≤ 1048576) :
    Calls Tryz.prog 10 #[.slice (some ⟨g, 0, none⟩) ns.length q, .int .i64 1] w fun e w' => e = .returned (.int .i64 ((1 + ns.length : Nat) : Int)) ∧ ∃ v, Bv v w w' ∧ ∀ b, v.ownBlock = some b → lo ≤ b ∧ b < hi := by
  by_cases h0 : ns = []
  · subst h0
    refine (markStringS_zero 1 (some ⟨g, 0, none⟩) q w).mono ?_
    rintro e w' ⟨rfl, hb⟩
    exact ⟨rfl, .bool false, (Bv.refl _ _).to hb, fun b e => by cases e⟩
  · refine (markNames_any ns g q lo w hin hlo hl).mono ?_
    rintro e w' ⟨rfl, hv⟩
    refine ⟨rfl, _, hv, fun b e => ?_⟩
    rcases h5.2 with h | ⟨b', o', e', ⟨h1, _⟩, h3, _⟩
    · exact absurd h h0
    · cases e'
      cases e
      exact ⟨h1, by show g < hi; omega⟩

set_option maxHeartbeats 16000000 in
set_option maxRecDepth 100000 in
theorem law_any (ns : List ByteArray) (a0 : Option Addr) (c0 lo : Nat) (w : World) (hin : SliceC StrC 1 lo w a0 ns) :
    Calls Tryz.prog 3 #[.slice a0 ns.length c0] w fun e w' => e = .returned (.bool true) ∧ Below w.heap.size w w' := by
  have N := Hid.intro hin
  clear hin
  have hB0 : Below w.heap.size w w := Below.refl _ _
  go_enter Tryz.func3, Tryz.ntmps3
  go_wp2_with fail
  refine (szStrS_any ns a0 c0 lo 1048576 _ N.out (by omega) (by omega)).mono ?_
  rintro e w1 ⟨rfl, hb⟩
  have hB1 := hB0.trans (hb.mono hB0.size)
  clear hb hB0
  by_cases hz : ((wS ByteArray.size ns : Nat) : Int) ≤ 1048576
  case neg =>
    rw [szR_neg hz]
    go_wp2_with fail
    go_ret
    exact ⟨rfl, hB1⟩
  rw [szR_pos hz]
  have hsm : wS ByteArray.size ns ≤ 1048576 := by omega
  have hz0 : (0 : Int) ≤ 1048576 - (wS ByteArray.size ns : Nat) := by omega
  clear hz
  generalize (1048576 : Int) - (wS ByteArray.size ns : Nat) = R at *
  have hnl : ns.length ≤ 1048576 := Nat.le_trans wS_len hsm
  have HSM := Hid.intro hsm
  have HZN : Hid (SzNm (nmL (okN ns)) 1048576) := sz_okN hsm
  have HSW : Hid (wS ByteArray.size ((nmL (okN ns)).map (·.name)) ≤ 1048576) := w_okN hsm
  have hm4 : (okN ns).length ≤ 4 := okN_len ns
  clear hsm
  obtain ⟨xs, hxs⟩ : ∃ xs, xs = nmL (okN ns) := ⟨_, rfl⟩
  obtain ⟨m, hm⟩ : ∃ m, m = (okN ns).length := ⟨_, rfl⟩
  have HXS := Hid.intro hxs
  have HMM := Hid.intro hm
  have hxm : xs.length = m := by rw [hxs, hm, nmL_len]
  rw [← hxs] at HZN HSW
  rw [← hm] at hm4
  clear hxs hm
  go_wp2_with fail
  refine (toStrS_any ns a0 c0 lo _ (N.out.below StrC.holds (B := w.heap.size) hB1 (Nat.le_refl _)) HSM.out).mono ?_
  rintro e w2 ⟨g2, rfl, _, y2, hb⟩
  have Y2 := Hid.intro y2
  have hB2 := hB1.trans (hb.mono hB1.size)
  clear hb hB1 y2
  go_wp2_with fail
  refine (specNew_any ns (some ⟨g2, 0, none⟩) ns.length _ _ Y2.out HSM.out).mono ?_
  rintro e w3 ⟨bA, qA, rfl, ho, hb⟩
  rw [← HXS.out, ← HMM.out] at ho
  have RA3 : Hid (w3.ownsRow w2.heap.size 41 9 (.slice bA m qA) m (rvNm xs)) := ho
  rw [← HMM.out]
  have hsA : w2.heap.size ≤ w3.heap.size := hb.size
  clear ho
  have hB3 := hB2.trans (hb.mono hB2.size)
  clear hb hB2 Y2
  generalize w2.heap.size = sA at *
  have hrA0 : ∀ b, (Value.slice bA m qA).ownBlock = some b → b < w3.heap.size := fun b e => (RA3.out.lt b e).2
  have hb : Below w3.heap.size w3 (w3.alloc (Obj.cells #[.int .i64 0, .slice none 0 0, .slice none 0 0, .slice bA m qA, .slice none 0 0] 30)) := (Below.refl _ _).alloc (Nat.le_refl _) _
  have KA4 : Hid (Blk w3.heap.size #[.int .i64 0, .slice none 0 0, .slice none 0 0, .slice bA m qA, .slice none 0 0] 30 (w3.alloc (Obj.cells #[.int .i64 0, .slice none 0 0, .slice none 0 0, .slice bA m qA, .slice none 0 0] 30))) := Blk.alloc _ _ _
  have RA4 := Hid.intro (ownsRow_below RA3.out hb)
  have hB4 := hB3.trans (hb.mono hB3.size)
  have hpA : w3.heap.size < (w3.alloc (Obj.cells #[.int .i64 0, .slice none 0 0, .slice none 0 0, .slice bA m qA, .slice none 0 0] 30)).heap.size := KA4.out.lt
  clear RA3 hB3 hb
  go_upto_region 6 with fail
  have hrA : ∀ b, (Value.slice bA m qA).ownBlock = some b → b < w3.heap.size := hrA0
  generalize (w3.alloc (Obj.cells #[.int .i64 0, .slice none 0 0, .slice none 0 0, .slice bA m qA, .slice none 0 0] 30)) = w4 at *
  generalize w3.heap.size = pA at *
  go_wp2_with fail
  refine (toStrS_any ns a0 c0 lo _ (N.out.below StrC.holds (B := w.heap.size) hB4 (Nat.le_refl _)) HSM.out).mono ?_
  rintro e w5 ⟨g5, rfl, hg5, x5, hb⟩
  have X5 : Hid (SliceC StrC 1 w4.heap.size w5 (some ⟨g5, 0, none⟩) ns) := x5
  have X5o := X5
  have Y5 := X5
  have h45 : w4.heap.size ≤ w5.heap.size := hb.size
  have hw4 : w.heap.size ≤ w4.heap.size := hB4.size
  clear x5
  have RA5 := Hid.intro (ownsRow_below RA4.out hb)
  have KA5 := Hid.intro (KA4.out.below hb KA4.out.lt)
  have hB5 := hB4.trans (hb.mono hB4.size)
  clear RA4 KA4 hB4 hb
  generalize w4.heap.size = s4 at *
  go_wp2_with fail
  refine (implNew_any ns (some ⟨g5, 0, none⟩) ns.length _ _ Y5.out HSM.out).mono ?_
  rintro e w6 ⟨bB, qB, rfl, ho, hb⟩
  rw [← HXS.out, ← HMM.out] at ho
  have RB6 : Hid (w6.ownsRow w5.heap.size 41 9 (.slice bB m qB) m (rvNm xs)) := ho
  rw [← HMM.out]
  have hsB : w5.heap.size ≤ w6.heap.size := hb.size
  clear ho Y5
  have RA6 := Hid.intro (ownsRow_below RA5.out hb)
  have KA6 := Hid.intro (KA5.out.below hb KA5.out.lt)
  have X6 := Hid.intro (X5.out.below StrC.holds hb (Nat.le_refl _))
  have hB6 := hB5.trans (hb.mono hB5.size)
  clear RA5 KA5 X5 hB5 hb
  obtain ⟨s5, hs5⟩ : ∃ s, s = w5.heap.size := ⟨_, rfl⟩
  rw [← hs5] at RB6 hsB h45
  have HS5 := Hid.intro hs5
  clear hs5
  have hrB0 : ∀ b, (Value.slice bB m qB).ownBlock = some b → s5 ≤ b ∧ b < w6.heap.size := fun b e => ⟨own_blkN RB6.out b e, (RB6.out.lt b e).2⟩
  have hb : Below w6.heap.size w6 (w6.alloc (Obj.cells #[.int .i64 0, .slice none 0 0, .slice none 0 0, .slice bB m qB, .slice none 0 0] 30)) := (Below.refl _ _).alloc (Nat.le_refl _) _
  have KB7 : Hid (Blk w6.heap.size #[.int .i64 0, .slice none 0 0, .slice none 0 0, .slice bB m qB, .slice none 0 0] 30 (w6.alloc (Obj.cells #[.int .i64 0, .slice none 0 0, .slice none 0 0, .slice bB m qB, .slice none 0 0] 30))) := Blk.alloc _ _ _
  have RA7 := Hid.intro (ownsRow_below RA6.out hb)
  have KA7 := Hid.intro (KA6.out.below hb KA6.out.lt)
  have X7 := Hid.intro (X6.out.below StrC.holds hb (Nat.le_refl _))
  have RB7 := Hid.intro (ownsRow_below RB6.out hb)
  have hB7 := hB6.trans (hb.mono hB6.size)
  have hpB : w6.heap.size < (w6.alloc (Obj.cells #[.int .i64 0, .slice none 0 0, .slice none 0 0, .slice bB m qB, .slice none 0 0] 30)).heap.size := KB7.out.lt
  clear RA6 KA6 X6 RB6 hB6 hb
  go_upto_region 8 with fail
  have hrB : ∀ b, (Value.slice bB m qB).ownBlock = some b → s5 ≤ b ∧ b < w6.heap.size := hrB0
  generalize (w6.alloc (Obj.cells #[.int .i64 0, .slice none 0 0, .slice none 0 0, .slice bB m qB, .slice none 0 0] 30)) = w7 at *
  generalize w6.heap.size = pB at *
  clear hrA0 hrB0
  have CT := Hid.intro (eqNew_any xs bB qB _ bA qA _ w7 (by rw [hxm]; exact RB7.out) (by rw [hxm]; exact RA7.out) (by omega) HZN.out HSW.out)
  rw [hxm] at CT
  go_wp2_with (first | (refine wpList_load_mid rfl 30 _ rfl pB 0 rfl [.int .i64 0, .slice none 0 0, .slice none 0 0, .slice bB m qB, .slice none 0 0] _ KB7.out.rangeA Tryz.underlying30 rfl isz_Wrl ?_) | (refine wpList_load_mid rfl 30 _ rfl pA 0 rfl [.int .i64 0, .slice none 0 0, .slice none 0 0, .slice bA m qA, .slice none 0 0] _ KA7.out.rangeA Tryz.underlying30 rfl isz_Wrl ?_))
  refine CT.out.mono ?_
  rintro e w8 ⟨rfl, hb⟩
  clear CT
  have RA8 := Hid.intro (ownsRow_below RA7.out hb)
  have KA8 := Hid.intro (KA7.out.below hb KA7.out.lt)
  have X8 := Hid.intro (X7.out.below StrC.holds hb (Nat.le_refl _))
  have RB8 := Hid.intro (ownsRow_below RB7.out hb)
  have KB8 := Hid.intro (KB7.out.below hb KB7.out.lt)
  have hB8 := hB7.trans (hb.mono hB7.size)
  clear RA7 KA7 X7 RB7 KB7 hB7 hb
  go_wp2_with fail
  refine (toStrS_any ns a0 c0 lo _ (N.out.below StrC.holds (B := w.heap.size) hB8 (Nat.le_refl _)) HSM.out).mono ?_
  rintro e w9 ⟨g9, rfl, _, y9, hb⟩
  have Y9 := Hid.intro y9
  clear y9
  have RA9 := Hid.intro (ownsRow_below RA8.out hb)
  have KA9 := Hid.intro (KA8.out.below hb KA8.out.lt)
  have X9 := Hid.intro (X8.out.below StrC.holds hb (Nat.le_refl _))
  have RB9 := Hid.intro (ownsRow_below RB8.out hb)
  have KB9 := Hid.intro (KB8.out.below hb KB8.out.lt)
  have hB9 := hB8.trans (hb.mono hB8.size)
  clear RA8 KA8 X8 RB8 KB8 hB8 hb
  go_wp2_with fail
  refine (eqStrS_any ns (some ⟨g5, 0, none⟩) (some ⟨g9, 0, none⟩) ns.length ns.length _ _ _ X9.out Y9.out HSM.out).mono ?_
  rintro e w10 ⟨rfl, hb⟩
  clear Y9
  have RA10 := Hid.intro (ownsRow_below RA9.out hb)
  have KA10 := Hid.intro (KA9.out.below hb KA9.out.lt)
  have X10 := Hid.intro (X9.out.below StrC.holds hb (Nat.le_refl _))
  have RB10 := Hid.intro (ownsRow_below RB9.out hb)
  have KB10 := Hid.intro (KB9.out.below hb KB9.out.lt)
  have hB10 := hB9.trans (hb.mono hB9.size)
  clear RA9 KA9 X9 RB9 KB9 hB9 hb
  have hs4 : 0 < s4 := by omega
  go_wp2_with fail
  refine (markX_any ns g5 ns.length s4 s5 w5 _ X10.out X5o.out HS5.out.symm hs4 hnl).mono ?_
  rintro e w11 ⟨rfl, v, hv, hvr⟩
  have KA11 := Hid.intro (KA10.out.bv hv (fun e => by have := hvr _ e; omega))
  have RA11 := Hid.intro (ownsRow_bv RA10.out hv (fun b e1 e2 => by have := hvr _ e2; have := hrA b e1; omega))
  have KB11 := Hid.intro (KB10.out.bv hv (fun e => by have := hvr _ e; omega))
  have RB11 := Hid.intro (ownsRow_bv RB10.out hv (fun b e1 e2 => by have := hvr _ e2; have := hrB b e1; omega))
  have hB11 := hB10.trans (hv.below (B := w.heap.size) hB10.size (fun b e => by have := hvr b e; omega))
  clear KA10 RA10 KB10 RB10 hB10 hv hvr X10 X5o HS5
  have hk1 : ¬ (((1 + ns.length : Nat) : Int) < 0) := by omega
  have CT := Hid.intro (eqNew_any xs bB qB _ bA qA _ w11 (by rw [hxm]; exact RB11.out) (by rw [hxm]; exact RA11.out) (by omega) HZN.out HSW.out)
  rw [hxm] at CT
  have cB0 : w11.cell? ⟨pB, 0, none⟩ = some (.int .i64 0) := KB11.out.cell rfl
  have cB1 : w11.cell? ⟨pB, 1, none⟩ = some (.slice none 0 0) := KB11.out.cell rfl
  have cB2 : w11.cell? ⟨pB, 2, none⟩ = some (.slice none 0 0) := KB11.out.cell rfl
  have cB3 : w11.cell? ⟨pB, 3, none⟩ = some (.slice bB m qB) := KB11.out.cell rfl
  have cB4 : w11.cell? ⟨pB, 4, none⟩ = some (.slice none 0 0) := KB11.out.cell rfl
  have cA0 : w11.cell? ⟨pA, 0, none⟩ = some (.int .i64 0) := KA11.out.cell rfl
  have cA1 : w11.cell? ⟨pA, 1, none⟩ = some (.slice none 0 0) := KA11.out.cell rfl
  have cA2 : w11.cell? ⟨pA, 2, none⟩ = some (.slice none 0 0) := KA11.out.cell rfl
  have cA3 : w11.cell? ⟨pA, 3, none⟩ = some (.slice bA m qA) := KA11.out.cell rfl
  have cA4 : w11.cell? ⟨pA, 4, none⟩ = some (.slice none 0 0) := KA11.out.cell rfl
  go_wp2_with fail
  clear cB0 cB1 cB2 cB3 cB4 cA0 cA1 cA2 cA3 cA4
  refine CT.out.mono ?_
  rintro e w12 ⟨rfl, hb⟩
  clear CT
  have RA12 := Hid.intro (ownsRow_below RA11.out hb)
  have KA12 := Hid.intro (KA11.out.below hb KA11.out.lt)
  have RB12 := Hid.intro (ownsRow_below RB11.out hb)
  have KB12 := Hid.intro (KB11.out.below hb KB11.out.lt)
  have hB12 := hB11.trans (hb.mono hB11.size)
  clear RA11 KA11 RB11 KB11 hB11 hb
  clear hk1
  have CM := Hid.intro (markW_any xs bB qB s5 w12 (by rw [hxm]; exact RB12.out) (by omega))
  rw [hxm] at CM
  go_wp2_with (refine wpList_load_mid rfl 30 _ rfl pB 0 rfl [.int .i64 0, .slice none 0 0, .slice none 0 0, .slice bB m qB, .slice none 0 0] _ KB12.out.rangeA Tryz.underlying30 rfl isz_Wrl ?_)
  refine CM.out.mono ?_
  rintro e w13 ⟨rfl, ho, hv⟩
  have RB13 : Hid (w13.ownsRow s5 41 9 (.slice bB m qB) m (mvL 1 m)) := ho
  have KA13 := Hid.intro (KA12.out.bv hv (fun e => by have := hrB _ e; omega))
  have RA13 := Hid.intro (ownsRow_bv RA12.out hv (fun b e1 e2 => by have := hrB _ e2; have := hrA b e1; omega))
  have KB13 := Hid.intro (KB12.out.bv hv (fun e => by have := hrB _ e; omega))
  have hB13 := hB12.trans (hv.below (B := w.heap.size) hB12.size (fun b e => by have := hrB b e; omega))
  clear KA12 RA12 KB12 RB12 hB12 hv ho CM
  obtain ⟨T, hT⟩ : ∃ T, T = 1 + 5 * m := ⟨_, rfl⟩
  rw [← hT]
  have HT := Hid.intro hT
  clear hT
  have hT0 : ¬ ((T : Int) < 0) := by omega
  have CH := Hid.intro (heldW_any xs bB qB s5 w13 (by rw [hxm]; exact RB13.out) (by omega))
  rw [hxm, ← HT.out] at CH
  go_wp2_with (refine wpList_load_mid rfl 30 _ rfl pB 0 rfl [.int .i64 0, .slice none 0 0, .slice none 0 0, .slice bB m qB, .slice none 0 0] _ KB13.out.rangeA Tryz.underlying30 rfl isz_Wrl ?_)
  refine CH.out.mono ?_
  rintro e w14 ⟨rfl, hb⟩
  clear CH
  have RA14 := Hid.intro (ownsRow_below RA13.out hb)
  have KA14 := Hid.intro (KA13.out.below hb KA13.out.lt)
  have RB14 := Hid.intro (ownsRow_below RB13.out hb)
  have KB14 := Hid.intro (KB13.out.below hb KB13.out.lt)
  have hB14 := hB13.trans (hb.mono hB13.size)
  clear RA13 KA13 RB13 KB13 hB13 hb
  go_wp2_with fail
  refine (toStrS_any ns a0 c0 lo _ (N.out.below StrC.holds (B := w.heap.size) hB14 (Nat.le_refl _)) HSM.out).mono ?_
  rintro e w15 ⟨g15, rfl, _, y15, hb⟩
  have Y15 := Hid.intro y15
  clear y15
  have RA15 := Hid.intro (ownsRow_below RA14.out hb)
  have KA15 := Hid.intro (KA14.out.below hb KA14.out.lt)
  have RB15 := Hid.intro (ownsRow_below RB14.out hb)
  have KB15 := Hid.intro (KB14.out.below hb KB14.out.lt)
  have hB15 := hB14.trans (hb.mono hB14.size)
  clear RA14 KA14 RB14 KB14 hB14 hb
  go_wp2_with fail
  refine (implNew_any ns (some ⟨g15, 0, none⟩) ns.length _ _ Y15.out HSM.out).mono ?_
  rintro e w16 ⟨bC, qC, rfl, ho, hb⟩
  rw [← HXS.out, ← HMM.out] at ho
  have RC16 : Hid (w16.ownsRow w15.heap.size 41 9 (.slice bC m qC) m (rvNm xs)) := ho
  rw [← HMM.out]
  clear ho Y15
  have RA16 := Hid.intro (ownsRow_below RA15.out hb)
  have KA16 := Hid.intro (KA15.out.below hb KA15.out.lt)
  have RB16 := Hid.intro (ownsRow_below RB15.out hb)
  have KB16 := Hid.intro (KB15.out.below hb KB15.out.lt)
  have hB16 := hB15.trans (hb.mono hB15.size)
  clear RA15 KA15 RB15 KB15 hB15 hb
  have hb : Below w16.heap.size w16 (w16.alloc (Obj.cells #[.int .i64 0, .slice none 0 0, .slice none 0 0, .slice bC m qC, .slice none 0 0] 30)) := (Below.refl _ _).alloc (Nat.le_refl _) _
  have KC17 : Hid (Blk w16.heap.size #[.int .i64 0, .slice none 0 0, .slice none 0 0, .slice bC m qC, .slice none 0 0] 30 (w16.alloc (Obj.cells #[.int .i64 0, .slice none 0 0, .slice none 0 0, .slice bC m qC, .slice none 0 0] 30))) := Blk.alloc _ _ _
  have RA17 := Hid.intro (ownsRow_below RA16.out hb)
  have KA17 := Hid.intro (KA16.out.below hb KA16.out.lt)
  have RB17 := Hid.intro (ownsRow_below RB16.out hb)
  have KB17 := Hid.intro (KB16.out.below hb KB16.out.lt)
  have RC17 := Hid.intro (ownsRow_below RC16.out hb)
  have hB17 := hB16.trans (hb.mono hB16.size)
  have hpC : w16.heap.size < (w16.alloc (Obj.cells #[.int .i64 0, .slice none 0 0, .slice none 0 0, .slice bC m qC, .slice none 0 0] 30)).heap.size := KC17.out.lt
  clear RA16 KA16 RB16 KB16 RC16 hB16 hb
  go_upto_region 25 with fail
  generalize (w16.alloc (Obj.cells #[.int .i64 0, .slice none 0 0, .slice none 0 0, .slice bC m qC, .slice none 0 0] 30)) = w17 at *
  generalize w16.heap.size = pC at *
  have CT := Hid.intro (eqNew_any xs bC qC _ bA qA _ w17 (by rw [hxm]; exact RC17.out) (by rw [hxm]; exact RA17.out) (by omega) HZN.out HSW.out)
  rw [hxm] at CT
  go_wp2_with (first | (refine wpList_load_mid rfl 30 _ rfl pC 0 rfl [.int .i64 0, .slice none 0 0, .slice none 0 0, .slice bC m qC, .slice none 0 0] _ KC17.out.rangeA Tryz.underlying30 rfl isz_Wrl ?_) | (refine wpList_load_mid rfl 30 _ rfl pA 0 rfl [.int .i64 0, .slice none 0 0, .slice none 0 0, .slice bA m qA, .slice none 0 0] _ KA17.out.rangeA Tryz.underlying30 rfl isz_Wrl ?_))
  refine CT.out.mono ?_
  rintro e w18 ⟨rfl, hb⟩
  clear CT
  have RA18 := Hid.intro (ownsRow_below RA17.out hb)
  have KA18 := Hid.intro (KA17.out.below hb KA17.out.lt)
  have RB18 := Hid.intro (ownsRow_below RB17.out hb)
  have KB18 := Hid.intro (KB17.out.below hb KB17.out.lt)
  have RC18 := Hid.intro (ownsRow_below RC17.out hb)
  have KC18 := Hid.intro (KC17.out.below hb KC17.out.lt)
  have hB18 := hB17.trans (hb.mono hB17.size)
  clear RA17 KA17 RB17 KB17 RC17 KC17 hB17 hb
  have CH := Hid.intro (heldW_any xs bB qB s5 w18 (by rw [hxm]; exact RB18.out) (by omega))
  rw [hxm, ← HT.out] at CH
  go_wp2_with (refine wpList_load_mid rfl 30 _ rfl pB 0 rfl [.int .i64 0, .slice none 0 0, .slice none 0 0, .slice bB m qB, .slice none 0 0] _ KB18.out.rangeA Tryz.underlying30 rfl isz_Wrl ?_)
  refine CH.out.mono ?_
  rintro e w19 ⟨rfl, hb⟩
  clear CH
  have RA19 := Hid.intro (ownsRow_below RA18.out hb)
  have KA19 := Hid.intro (KA18.out.below hb KA18.out.lt)
  have RB19 := Hid.intro (ownsRow_below RB18.out hb)
  have KB19 := Hid.intro (KB18.out.below hb KB18.out.lt)
  have RC19 := Hid.intro (ownsRow_below RC18.out hb)
  have KC19 := Hid.intro (KC18.out.below hb KC18.out.lt)
  have hB19 := hB18.trans (hb.mono hB18.size)
  clear RA18 KA18 RB18 KB18 RC18 KC18 hB18 hb
  go_wp2_with fail
  go_ret
  exact ⟨rfl, hB19⟩

end Go.Proofs.YtebcocejgenadaaGreat
