/-
  Several texts in one: Smv, Mk2.
-/
import Derived.Test.YthjicahpfhjfdaaGreatDoorSmu
import Derived.Test.YthjicahpfhjfdaaGreatDoorJ31
import Derived.Test.YthjicahpfhjfdaaGreatDoorJ32
import Derived.Maps.OwnOps
import Derived.Laws.Cover1
namespace Go.Proofs.YthjicahpfhjfdaaGreatDoor
open Go.RowKit

/-- marks are as a list of nodes asks -/
def meetsNs (ns : List P.Nd) (ms : List ByteArray) : Bool := validB ns && (match P.treeI ns with | some t => meetsS ms t | none => false)

set_option maxHeartbeats 2000000 in
set_option maxRecDepth 100000 in
theorem specMeets_any (ns : List P.Nd) (g cn : Nat) (ms : List ByteArray) (am : Option Addr) (cm : Nat) (w : World) (hN : Nodes0 w g ns) (hsm : Small ns) (hM : SliceC StrC 1 0 w am ms) :
    Calls Tryz.prog 12 #[.agg #[.slice (some ⟨g, 0, none⟩) ns.length cn], .slice am ms.length cm] w fun e w' => e = .returned (.bool (meetsNs ns ms)) ∧ Below w.heap.size w w' := by
  have HN : Hid (Nodes0 w g ns) := hN
  have HS : Hid (Small ns) := hsm
  have HM : Hid (SliceC StrC 1 0 w am ms) := hM
  clear hN hsm hM
  cases hv : validB ns with
  | false =>
    have HV : Hid (validB ns = false) := hv
    have HO : Hid (false = meetsNs ns ms) := by show _ = _; rw [meetsNs, hv]; rfl
    clear hv
    go_enter Tryz.func12, Tryz.ntmps12
    go_wp2_with fail
    refine (valid_any ns g cn _ (HN.out.grown (by go_grown)) HS.out).mono ?_
    rintro e w1 ⟨rfl, hb⟩
    rw [HV.out]
    go_wp2_with fail
    go_ret
    exact ⟨ret_bool HO.out, ((Below.refl _ w).alloc (Nat.le_refl _) _).trans (hb.mono (by simp))⟩
  | true =>
    have HV : Hid (validB ns = true) := hv
    have hv0 := hv
    unfold validB at hv
    simp only [Bool.and_eq_true] at hv
    obtain ⟨ht, hi⟩ := hv
    obtain ⟨out, r, t, hko, hol, hrl, hIs, hlo, hhi, hfin, hct⟩ := P.same_tree2 ht
    have hlen := treeOk_len ht
    have h20 : P.tall t ≤ 20 := by
      by_cases h : P.tall t ≤ 20
      · exact h
      · rw [hhi (by omega)] at hi
        cases hi
    have HKO : Hid (P.kidsOf ns = some (out, [r])) := hko
    have cc := fun go co => meet_any ns out ns.length cn co go g ms am cm hol t r hIs
    unfold MeetOk at cc
    rw [show ((r : Nat) : Int) = (ns.length : Int) - 1 by omega] at cc
    have HC : Hid (∀ (go co : Nat) (w : World), Nodes0 w g ns → KidsIn w go out → SliceC StrC 1 0 w am ms → Calls Tryz.prog 30 #[.agg #[.slice (some ⟨g, 0, none⟩) ns.length cn], .slice (some ⟨go, 0, none⟩) ns.length co, .int .i64 ((ns.length : Int) - 1), .slice am ms.length cm] w fun e w' => e = .returned (.bool (meetsS ms t)) ∧ Below w.heap.size w w') := cc
    have hl1 : 1 ≤ ns.length := by omega
    have HO : Hid (meetsS ms t = meetsNs ns ms) := by
      show _ = _
      rw [meetsNs, hv0, hlo h20]
      rfl
    clear ht hko cc hIs hlo hhi hct hrl hol hfin h20 hi hv0
    generalize meetsS ms t = X at *
    go_enter Tryz.func12, Tryz.ntmps12
    go_wp2_with fail
    refine (valid_any ns g cn _ (HN.out.grown (by go_grown)) HS.out).mono ?_
    rintro e w1 ⟨rfl, hb⟩
    rw [HV.out]
    have hB1 : Below w.heap.size w w1 := ((Below.refl _ w).alloc (Nat.le_refl _) _).trans (hb.mono (by simp))
    have hc1 : w1.cell? ⟨w.heap.size, 0, none⟩ = some (.slice (some ⟨g, 0, none⟩) ns.length cn) := (hb.cell (p := ⟨w.heap.size, 0, none⟩) (by simp)).trans (by simp)
    have hz1 : w.heap.size < w1.heap.size := by have := hb.size; simp at this; omega
    clear hb
    go_wp2_with fail
    refine (kids_any ns g cn _ (HN.out.grown hB1) hlen).mono ?_
    rintro e w2 ⟨hb2, h2⟩
    rw [HKO.out] at h2
    obtain ⟨go, co, rfl, hkin, _⟩ := h2
    have hc2 : w2.cell? ⟨w.heap.size, 0, none⟩ = some (.slice (some ⟨g, 0, none⟩) ns.length cn) := (hb2.cell (p := ⟨w.heap.size, 0, none⟩) hz1).trans hc1
    have HB : Hid (Below w.heap.size w w2) := hB1.trans (hb2.mono (by omega))
    have HK : Hid (KidsIn w2 go out) := hkin
    clear hb2 hkin hc1 hB1
    go_wp2_with fail
    refine (HC.out _ _ _ (HN.out.grown HB.out) HK.out (HM.out.below StrC.holds HB.out (Nat.le_refl _))).mono ?_
    rintro e w3 ⟨rfl, hb3⟩
    have HB3 : Hid (Below w.heap.size w w3) := HB.out.trans (hb3.mono HB.out.size)
    clear hb3
    go_wp2_with fail
    go_ret
    exact ⟨ret_bool HO.out, HB3.out⟩

end Go.Proofs.YthjicahpfhjfdaaGreatDoor

namespace Go.Proofs.YthjicahpfhjfdaaGreatDoor
open Go.RowKit Go.WideMaps Go.Maps

/-- how often a text is in a list -/
def cntOf (t : ByteArray) (r : List ByteArray) : Nat := r.countP (fun s => decide (s = t))

theorem cntOf_le (t : ByteArray) (r : List ByteArray) : cntOf t r ≤ r.length := List.countP_le_length
theorem cntOf_same (t : ByteArray) (r : List ByteArray) : cntOf t (t :: r) = cntOf t r + 1 := by simp [cntOf]
theorem cntOf_other {t s : ByteArray} (h : ¬ s = t) (r : List ByteArray) : cntOf t (s :: r) = cntOf t r := by simp [cntOf, h]

/-- the map that counts keys, the last one in front -/
def cntR : List ByteArray → DataW Unit
  | [] => .map []
  | s :: r => (cntR r).put (kOf s) (.lit (.int .i64 (((cntOf s r : Nat) : Int) + 1)))

theorem cntR_isMap : ∀ r, IsMap (cntR r)
  | [] => ⟨_, rfl⟩
  | _ :: r => IsMap.put (cntR_isMap r) _ _

theorem at_cntR (t : ByteArray) : ∀ r : List ByteArray, (cntR r).atKey (kOf t) (.lit (.int .i64 0)) = .lit (.int .i64 ((cntOf t r : Nat) : Int))
  | [] => rfl
  | s :: r => by
    unfold cntR
    by_cases e : s = t
    · subst e
      rw [atKey_put_same (cntR_isMap r) (show WideAt.IsKeyLit (kOf _) from trivial), cntOf_same]
      simp
    · rw [atKey_put_other (fun h => e (kOf_inj h).symm), at_cntR t r, cntOf_other e]

/-- the keys of a text, the last one in front -/
def keyR (m : ByteArray) : List ByteArray := if isMk m = true then (if eqIdx m < 0 then [mName m] else [m, mName m]) else []
def keysR (ms : List ByteArray) : Nat → List ByteArray
  | 0 => []
  | k + 1 => match ms[k]? with
    | some m => keyR m ++ keysR ms k
    | none => keysR ms k

theorem keyR_len (m : ByteArray) : (keyR m).length ≤ 2 := by
  unfold keyR
  split
  · split <;> simp
  · simp

theorem keysR_len (ms : List ByteArray) : ∀ k, (keysR ms k).length ≤ 2 * k
  | 0 => by simp [keysR]
  | k + 1 => by
    unfold keysR
    have := keysR_len ms k
    split
    · rename_i m _
      have := keyR_len m
      simp
      omega
    · omega

theorem keysR_step {ms : List ByteArray} {k : Nat} {m : ByteArray} (h : ms[k]? = some m) : keysR ms (k + 1) = keyR m ++ keysR ms k := by
  simp [keysR, h]

theorem run_mapNone {P : Program} {w : World} (t : TypeId) : (Instr.makeMap t none).run P w = .ok (.map (some w.heap.size)) (w.alloc (.map #[] 0)) := rfl

theorem lit_int_inj {a b : Int} (h : (DataW.lit (Lit.int .i64 a) : DataW Unit) = .lit (.int .i64 b)) : a = b := by
  injection h with h
  injection h

set_option maxHeartbeats 2000000 in
set_option maxRecDepth 100000 in
theorem marksOf_any (ms : List ByteArray) (a : Option Addr) (cap lo : Nat) (w : World) (hin : SliceC StrC 1 lo w a ms) (hsm : ms.length ≤ 1048576) :
    Calls Tryz.prog 29 #[.slice a ms.length cap] w fun e w' => ∃ m n, e = .returned (.map (some m)) ∧ w'.ownsMap Tryz.prog 9 (plainElem Tryz.prog 3) m n (cntR (keysR ms ms.length)) ∧ Below w.heap.size w w' := by
  have hmm : ∀ w, (Instr.makeMap 80 none).run Tryz.prog w = .ok (.map (some w.heap.size)) (w.alloc (.map #[] 0)) := fun w => run_mapNone _
  have HI : Hid (SliceC StrC 1 lo w a ms) := hin
  clear hin
  go_enter Tryz.func29, Tryz.ntmps29
  go_wp2_with fail
  go_loopw [12] (fun i wr => ∃ k n : Nat, k ≤ ms.length ∧ i = .int .i64 k ∧ Hid (n ≤ 2 * k) ∧ Hid (wr.ownsMap Tryz.prog 9 (plainElem Tryz.prog 3) w.heap.size n (cntR (keysR ms k))) ∧ Hid (Below w.heap.size w wr))
    (fun i _ => ms.length - (intOf i).toNat)
  case atStart => exact ⟨0, 0, Nat.zero_le _, rfl, Nat.le_refl _, World.ownsMap_made _ _ _ _, (Below.refl _ _).alloc (Nat.le_refl _) _⟩
  case round =>
    obtain ⟨k, n, hk, rfl, hn, ho, hbel⟩ := hrel
    by_cases hlt : k < ms.length
    · obtain ⟨m, hm⟩ : ∃ m, ms[k]? = some m := ⟨ms[k], List.getElem?_eq_getElem hlt⟩
      obtain ⟨b, o, rfl, _, _, hc⟩ := (HI.out.below StrC.holds hbel.out (Nat.le_refl _)).at hm
      obtain ⟨q0, z0⟩ := hc
      simp only [Nat.mul_one, Nat.add_zero] at q0
      have HX : Hid (ms[k]? = some m) := hm
      have HZ : Hid (m.size ≤ maxLen) := z0
      clear hm z0
      go_wp2_with fail
      refine (isMark_any m _ HZ.out).mono ?_
      rintro e w1 ⟨rfl, hb1⟩
      have HB1 : Hid (Below w.heap.size w w1) := hbel.out.trans (hb1.mono hbel.out.size)
      have HO1 : Hid (w1.ownsMap Tryz.prog 9 (plainElem Tryz.prog 3) w.heap.size n (cntR (keysR ms k))) := ownsMap_below ho.out hb1 ho.out.lt
      clear hb1 hbel ho q0
      cases hmk : isMk m with
      | false =>
        have HK : Hid (keysR ms (k + 1) = keysR ms k) := by show _ = _; rw [keysR_step HX.out]; simp [keyR, hmk]
        clear hmk
        go_wp2_with fail
        go_roundw
        case rel => exact ⟨k + 1, n, by omega, by go_num, by have := hn.out; show _ ≤ _; omega, by show World.ownsMap _ _ _ _ _ _ _; rw [HK.out]; exact HO1.out, HB1⟩
        case measure => simp [intOf]; omega
      | true =>
        go_wp2_with fail
        refine (cut_any m _ HZ.out).mono ?_
        rintro e w2 ⟨rfl, hb2⟩
        have HB2 : Hid (Below w.heap.size w w2) := HB1.out.trans (hb2.mono HB1.out.size)
        have HO2 : Hid (w2.ownsMap Tryz.prog 9 (plainElem Tryz.prog 3) w.heap.size n (cntR (keysR ms k))) := ownsMap_below HO1.out hb2 HO1.out.lt
        clear hb2 HB1 HO1
        have ZN : Hid ((mName m).size ≤ maxLen) := mName_size HZ.out
        have HKR : Hid (keyR m = if eqIdx m < 0 then [mName m] else [m, mName m]) := by show _ = _; simp [keyR, hmk]
        clear hmk
        have hkn : keyOf Tryz.prog 9 (.string (mName m)) = some (kOf (mName m)) := keyOf_string_mk Tryz.underlying9 ZN.out
        have hkm : keyOf Tryz.prog 9 (.string m) = some (kOf m) := keyOf_string_mk Tryz.underlying9 HZ.out
        have HL : Hid ((keysR ms k).length ≤ 2 * k) := keysR_len ms k
        obtain ⟨R, hR⟩ : ∃ R, R = keysR ms k := ⟨_, rfl⟩
        have HR : Hid (R = keysR ms k) := hR
        rw [← hR] at HO2 HL
        clear hR
        generalize mName m = nm at *
        generalize mVal m = vl at *
        obtain ⟨c0, hc0⟩ : ∃ c0 : Nat, c0 = cntOf nm R := ⟨_, rfl⟩
        have HA0 : Hid ((cntR R).atKey (kOf nm) (.lit (.int .i64 0)) = .lit (.int .i64 (c0 : Int))) := by show _ = _; rw [hc0]; exact at_cntR nm R
        have hc0l : c0 ≤ 2097152 := by have := cntOf_le nm R; have := HL.out; omega
        have HC0 : Hid (cntR (nm :: R) = (cntR R).put (kOf nm) (.lit (.int .i64 ((c0 : Int) + 1)))) := by show _ = _; rw [hc0]; rfl
        clear hc0
        go_upto_region 8 with (first | (at_lookup; refine wpList_lookup_own_int _ rfl _ _ 80 rfl 9 3 .i64 law_str Tryz.underlying80 Tryz.underlying3 (zero_int _) w.heap.size _ _ rfl HO2.out _ _ rfl hkn ?_; intro c hcc _; obtain rfl := lit_int_inj (hcc.symm.trans HA0.out)) | (at_mapUpdate; refine wpList_mapUpdate_own _ rfl _ _ _ 80 rfl 9 3 law_str Tryz.underlying80 _ w.heap.size n _ rfl HO2.out (by have := hn.out; unfold maxLen; omega) _ _ _ rfl rfl hkn _ [] (plainElem_int Tryz.underlying3 (WalkArith.wf_i64 (by omega))) ?_; intro w3 hown3 hgrow3))
        have HO3 : Hid (w3.ownsMap Tryz.prog 9 (plainElem Tryz.prog 3) w.heap.size (n + 1) (cntR (nm :: R))) := HC0.out.symm ▸ hown3
        have HB3 : Hid (Below w.heap.size w w3) := HB2.out.grown hgrow3 HB2.out.size (fun j hj => by cases hj; exact Nat.le_refl _)
        clear hown3 hgrow3 HO2 HB2 HA0 HC0 hkn
        by_cases hv : eqIdx m < 0
        · have HK : Hid (keysR ms (k + 1) = nm :: R) := by show _ = _; rw [keysR_step HX.out, HKR.out, if_pos hv, ← HR.out]; rfl
          have hvd : decide (eqIdx m < 0) = true := decide_eq_true hv
          rw [hvd]
          clear hv hvd HKR
          go_wp2_with fail
          go_roundw
          case rel => exact ⟨k + 1, n + 1, by omega, by go_num, by have := hn.out; show _ ≤ _; omega, by show World.ownsMap _ _ _ _ _ _ _; rw [HK.out]; exact HO3.out, HB3⟩
          case measure => simp [intOf]; omega
        · have HK : Hid (keysR ms (k + 1) = m :: nm :: R) := by show _ = _; rw [keysR_step HX.out, HKR.out, if_neg hv, ← HR.out]; rfl
          have hvd : decide (eqIdx m < 0) = false := decide_eq_false hv
          rw [hvd]
          clear hv hvd HKR
          obtain ⟨c1, hc1⟩ : ∃ c1 : Nat, c1 = cntOf m (nm :: R) := ⟨_, rfl⟩
          have HA1 : Hid ((cntR (nm :: R)).atKey (kOf m) (.lit (.int .i64 0)) = .lit (.int .i64 (c1 : Int))) := by show _ = _; rw [hc1]; exact at_cntR m _
          have hc1l : c1 ≤ 2097153 := by have := cntOf_le m (nm :: R); have := HL.out; simp at *; omega
          have HC1 : Hid (cntR (m :: nm :: R) = (cntR (nm :: R)).put (kOf m) (.lit (.int .i64 ((c1 : Int) + 1)))) := by show _ = _; rw [hc1]; rfl
          clear hc1
          generalize cntR (nm :: R) = D at *
          go_upto_region 10 with (first | (at_lookup; refine wpList_lookup_own_int _ rfl _ _ 80 rfl 9 3 .i64 law_str Tryz.underlying80 Tryz.underlying3 (zero_int _) w.heap.size _ _ rfl HO3.out _ _ rfl hkm ?_; intro c hcc _; obtain rfl := lit_int_inj (hcc.symm.trans HA1.out)) | (at_mapUpdate; refine wpList_mapUpdate_own _ rfl _ _ _ 80 rfl 9 3 law_str Tryz.underlying80 _ w.heap.size (n + 1) _ rfl HO3.out (by have := hn.out; unfold maxLen; omega) _ _ _ rfl rfl hkm _ [] (plainElem_int Tryz.underlying3 (WalkArith.wf_i64 (by omega))) ?_; intro w4 hown4 hgrow4))
          have HO4 : Hid (w4.ownsMap Tryz.prog 9 (plainElem Tryz.prog 3) w.heap.size (n + 1 + 1) (cntR (m :: nm :: R))) := HC1.out.symm ▸ hown4
          have HB4 : Hid (Below w.heap.size w w4) := HB3.out.grown hgrow4 HB3.out.size (fun j hj => by cases hj; exact Nat.le_refl _)
          clear hown4 hgrow4 HO3 HB3 HA1 HC1 hkm
          go_wp2_with fail
          go_roundw
          case rel => exact ⟨k + 1, n + 1 + 1, by omega, by go_num, by have := hn.out; show _ ≤ _; omega, by show World.ownsMap _ _ _ _ _ _ _; rw [HK.out]; exact HO4.out, HB4⟩
          case measure => simp [intOf]; omega
    · have hke : k = ms.length := by omega
      subst hke
      go_wp2_with fail
      go_ret
      exact ⟨_, n, rfl, ho.out, hbel.out⟩

end Go.Proofs.YthjicahpfhjfdaaGreatDoor
