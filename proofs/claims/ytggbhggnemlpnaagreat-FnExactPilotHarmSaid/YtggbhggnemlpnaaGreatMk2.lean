/-
  Walks: marks counted by their names.
-/
import Derived.Test.YtggbhggnemlpnaaGreatJ20
import Derived.Test.YtggbhggnemlpnaaGreatPlc
import Derived.Maps.OwnOps
import Derived.Laws.Cover1
namespace Go.Proofs.YtggbhggnemlpnaaGreat
open Go.RowKit Go.WideMaps Go.Maps

/-- how often a text is in a list -/
def cntOf (t : ByteArray) (r : List ByteArray) : Nat := r.countP (fun s => decide (s = t))

theorem cntOf_le (t : ByteArray) (r : List ByteArray) : cntOf t r ≤ r.length := List.countP_le_length
theorem cntOf_same (t : ByteArray) (r : List ByteArray) : cntOf t (t :: r) = cntOf t r + 1 := by simp [cntOf]
theorem cntOf_other {t s : ByteArray} (h : ¬ s = t) (r : List ByteArray) : cntOf t (s :: r) = cntOf t r := by simp [cntOf, h]

/-- the map that counts keys, the last one in front -/
def cntR : List ByteArray → DataW Unit
  | [] => .map []
  | s :: r => (cntR r).put (kOf s) (.lit (.int .i64 (((cntOf s r : Nat) : Int) + 1)))

theorem cntR_isMap : ∀ r, IsMap (cntR r)
  | [] => ⟨_, rfl⟩
  | _ :: r => IsMap.put (cntR_isMap r) _ _

theorem at_cntR (t : ByteArray) : ∀ r : List ByteArray, (cntR r).atKey (kOf t) (.lit (.int .i64 0)) = .lit (.int .i64 ((cntOf t r : Nat) : Int))
  | [] => rfl
  | s :: r => by
    unfold cntR
    by_cases e : s = t
    · subst e
      rw [atKey_put_same (cntR_isMap r) (show WideAt.IsKeyLit (kOf _) from trivial), cntOf_same]
      simp
    · rw [atKey_put_other (fun h => e (kOf_inj h).symm), at_cntR t r, cntOf_other e]

/-- the keys of a text, the last one in front -/
def keyR (m : ByteArray) : List ByteArray := if isMk m = true then (if eqIdx m < 0 then [mName m] else [m, mName m]) else []
def keysR (ms : List ByteArray) : Nat → List ByteArray
  | 0 => []
  | k + 1 => match ms[k]? with
    | some m => keyR m ++ keysR ms k
    | none => keysR ms k

theorem keyR_len (m : ByteArray) : (keyR m).length ≤ 2 := by
  unfold keyR
  split
  · split <;> simp
  · simp

theorem keysR_len (ms : List ByteArray) : ∀ k, (keysR ms k).length ≤ 2 * k
  | 0 => by simp [keysR]
  | k + 1 => by
    unfold keysR
    have := keysR_len ms k
    split
    · rename_i m _
      have := keyR_len m
      simp
      omega
    · omega

theorem keysR_step {ms : List ByteArray} {k : Nat} {m : ByteArray} (h : ms[k]? = some m) : keysR ms (k + 1) = keyR m ++ keysR ms k := by
  simp [keysR, h]

theorem run_mapNone {P : Program} {w : World} (t : TypeId) : (Instr.makeMap t none).run P w = .ok (.map (some w.heap.size)) (w.alloc (.map #[] 0)) := rfl

theorem lit_int_inj {a b : Int} (h : (DataW.lit (Lit.int .i64 a) : DataW Unit) = .lit (.int .i64 b)) : a = b := by
  injection h with h
  injection h

set_option maxHeartbeats 2000000 in
set_option maxRecDepth 100000 in
theorem marksOf_any (ms : List ByteArray) (a : Option Addr) (cap lo : Nat) (w : World) (hin : SliceC StrC 1 lo w a ms) (hsm : ms.length ≤ 1048576) :
    Calls Tryz.prog 128 #[.slice a ms.length cap] w fun e w' => ∃ m n, e = .returned (.map (some m)) ∧ w'.ownsMap Tryz.prog 9 (plainElem Tryz.prog 3) m n (cntR (keysR ms ms.length)) ∧ Below w.heap.size w w' := by
  have hmm : ∀ w, (Instr.makeMap 179 none).run Tryz.prog w = .ok (.map (some w.heap.size)) (w.alloc (.map #[] 0)) := fun w => run_mapNone _
  have HI : Hid (SliceC StrC 1 lo w a ms) := hin
  clear hin
  go_enter Tryz.func128, Tryz.ntmps128
  go_wp2_with fail
  go_loopw [12] (fun i wr => ∃ k n : Nat, k ≤ ms.length ∧ i = .int .i64 k ∧ Hid (n ≤ 2 * k) ∧ Hid (wr.ownsMap Tryz.prog 9 (plainElem Tryz.prog 3) w.heap.size n (cntR (keysR ms k))) ∧ Hid (Below w.heap.size w wr))
    (fun i _ => ms.length - (intOf i).toNat)
  case atStart => exact ⟨0, 0, Nat.zero_le _, rfl, Nat.le_refl _, World.ownsMap_made _ _ _ _, (Below.refl _ _).alloc (Nat.le_refl _) _⟩
  case round =>
    obtain ⟨k, n, hk, rfl, hn, ho, hbel⟩ := hrel
    by_cases hlt : k < ms.length
    · obtain ⟨m, hm⟩ : ∃ m, ms[k]? = some m := ⟨ms[k], List.getElem?_eq_getElem hlt⟩
      obtain ⟨b, o, rfl, _, _, hc⟩ := (HI.out.below StrC.holds hbel.out (Nat.le_refl _)).at hm
      obtain ⟨q0, z0⟩ := hc
      simp only [Nat.mul_one, Nat.add_zero] at q0
      have HX : Hid (ms[k]? = some m) := hm
      have HZ : Hid (m.size ≤ maxLen) := z0
      clear hm z0
      go_wp2_with fail
      refine (isMark_any m _ HZ.out).mono ?_
      rintro e w1 ⟨rfl, hb1⟩
      have HB1 : Hid (Below w.heap.size w w1) := hbel.out.trans (hb1.mono hbel.out.size)
      have HO1 : Hid (w1.ownsMap Tryz.prog 9 (plainElem Tryz.prog 3) w.heap.size n (cntR (keysR ms k))) := ownsMap_below ho.out hb1 ho.out.lt
      clear hb1 hbel ho q0
      cases hmk : isMk m with
      | false =>
        have HK : Hid (keysR ms (k + 1) = keysR ms k) := by show _ = _; rw [keysR_step HX.out]; simp [keyR, hmk]
        clear hmk
        go_wp2_with fail
        go_roundw
        case rel => exact ⟨k + 1, n, by omega, by go_num, by have := hn.out; show _ ≤ _; omega, by show World.ownsMap _ _ _ _ _ _ _; rw [HK.out]; exact HO1.out, HB1⟩
        case measure => simp [intOf]; omega
      | true =>
        go_wp2_with fail
        refine (cut_any m _ HZ.out).mono ?_
        rintro e w2 ⟨rfl, hb2⟩
        have HB2 : Hid (Below w.heap.size w w2) := HB1.out.trans (hb2.mono HB1.out.size)
        have HO2 : Hid (w2.ownsMap Tryz.prog 9 (plainElem Tryz.prog 3) w.heap.size n (cntR (keysR ms k))) := ownsMap_below HO1.out hb2 HO1.out.lt
        clear hb2 HB1 HO1
        have ZN : Hid ((mName m).size ≤ maxLen) := mName_size HZ.out
        have HKR : Hid (keyR m = if eqIdx m < 0 then [mName m] else [m, mName m]) := by show _ = _; simp [keyR, hmk]
        clear hmk
        have hkn : keyOf Tryz.prog 9 (.string (mName m)) = some (kOf (mName m)) := keyOf_string_mk Tryz.underlying9 ZN.out
        have hkm : keyOf Tryz.prog 9 (.string m) = some (kOf m) := keyOf_string_mk Tryz.underlying9 HZ.out
        have HL : Hid ((keysR ms k).length ≤ 2 * k) := keysR_len ms k
        obtain ⟨R, hR⟩ : ∃ R, R = keysR ms k := ⟨_, rfl⟩
        have HR : Hid (R = keysR ms k) := hR
        rw [← hR] at HO2 HL
        clear hR
        generalize mName m = nm at *
        generalize mVal m = vl at *
        obtain ⟨c0, hc0⟩ : ∃ c0 : Nat, c0 = cntOf nm R := ⟨_, rfl⟩
        have HA0 : Hid ((cntR R).atKey (kOf nm) (.lit (.int .i64 0)) = .lit (.int .i64 (c0 : Int))) := by show _ = _; rw [hc0]; exact at_cntR nm R
        have hc0l : c0 ≤ 2097152 := by have := cntOf_le nm R; have := HL.out; omega
        have HC0 : Hid (cntR (nm :: R) = (cntR R).put (kOf nm) (.lit (.int .i64 ((c0 : Int) + 1)))) := by show _ = _; rw [hc0]; rfl
        clear hc0
        go_upto_region 8 with (first | (at_lookup; refine wpList_lookup_own_int _ rfl _ _ 179 rfl 9 3 .i64 law_str Tryz.underlying179 Tryz.underlying3 (zero_int _) w.heap.size _ _ rfl HO2.out _ _ rfl hkn ?_; intro c hcc _; obtain rfl := lit_int_inj (hcc.symm.trans HA0.out)) | (at_mapUpdate; refine wpList_mapUpdate_own _ rfl _ _ _ 179 rfl 9 3 law_str Tryz.underlying179 _ w.heap.size n _ rfl HO2.out (by have := hn.out; unfold maxLen; omega) _ _ _ rfl rfl hkn _ [] (plainElem_int Tryz.underlying3 (WalkArith.wf_i64 (by omega))) ?_; intro w3 hown3 hgrow3))
        have HO3 : Hid (w3.ownsMap Tryz.prog 9 (plainElem Tryz.prog 3) w.heap.size (n + 1) (cntR (nm :: R))) := HC0.out.symm ▸ hown3
        have HB3 : Hid (Below w.heap.size w w3) := HB2.out.grown hgrow3 HB2.out.size (fun j hj => by cases hj; exact Nat.le_refl _)
        clear hown3 hgrow3 HO2 HB2 HA0 HC0 hkn
        by_cases hv : eqIdx m < 0
        · have HK : Hid (keysR ms (k + 1) = nm :: R) := by show _ = _; rw [keysR_step HX.out, HKR.out, if_pos hv, ← HR.out]; rfl
          have hvd : decide (eqIdx m < 0) = true := decide_eq_true hv
          rw [hvd]
          clear hv hvd HKR
          go_wp2_with fail
          go_roundw
          case rel => exact ⟨k + 1, n + 1, by omega, by go_num, by have := hn.out; show _ ≤ _; omega, by show World.ownsMap _ _ _ _ _ _ _; rw [HK.out]; exact HO3.out, HB3⟩
          case measure => simp [intOf]; omega
        · have HK : Hid (keysR ms (k + 1) = m :: nm :: R) := by show _ = _; rw [keysR_step HX.out, HKR.out, if_neg hv, ← HR.out]; rfl
          have hvd : decide (eqIdx m < 0) = false := decide_eq_false hv
          rw [hvd]
          clear hv hvd HKR
          obtain ⟨c1, hc1⟩ : ∃ c1 : Nat, c1 = cntOf m (nm :: R) := ⟨_, rfl⟩
          have HA1 : Hid ((cntR (nm :: R)).atKey (kOf m) (.lit (.int .i64 0)) = .lit (.int .i64 (c1 : Int))) := by show _ = _; rw [hc1]; exact at_cntR m _
          have hc1l : c1 ≤ 2097153 := by have := cntOf_le m (nm :: R); have := HL.out; simp at *; omega
          have HC1 : Hid (cntR (m :: nm :: R) = (cntR (nm :: R)).put (kOf m) (.lit (.int .i64 ((c1 : Int) + 1)))) := by show _ = _; rw [hc1]; rfl
          clear hc1
          generalize cntR (nm :: R) = D at *
          go_upto_region 10 with (first | (at_lookup; refine wpList_lookup_own_int _ rfl _ _ 179 rfl 9 3 .i64 law_str Tryz.underlying179 Tryz.underlying3 (zero_int _) w.heap.size _ _ rfl HO3.out _ _ rfl hkm ?_; intro c hcc _; obtain rfl := lit_int_inj (hcc.symm.trans HA1.out)) | (at_mapUpdate; refine wpList_mapUpdate_own _ rfl _ _ _ 179 rfl 9 3 law_str Tryz.underlying179 _ w.heap.size (n + 1) _ rfl HO3.out (by have := hn.out; unfold maxLen; omega) _ _ _ rfl rfl hkm _ [] (plainElem_int Tryz.underlying3 (WalkArith.wf_i64 (by omega))) ?_; intro w4 hown4 hgrow4))
          have HO4 : Hid (w4.ownsMap Tryz.prog 9 (plainElem Tryz.prog 3) w.heap.size (n + 1 + 1) (cntR (m :: nm :: R))) := HC1.out.symm ▸ hown4
          have HB4 : Hid (Below w.heap.size w w4) := HB3.out.grown hgrow4 HB3.out.size (fun j hj => by cases hj; exact Nat.le_refl _)
          clear hown4 hgrow4 HO3 HB3 HA1 HC1 hkm
          go_wp2_with fail
          go_roundw
          case rel => exact ⟨k + 1, n + 1 + 1, by omega, by go_num, by have := hn.out; show _ ≤ _; omega, by show World.ownsMap _ _ _ _ _ _ _; rw [HK.out]; exact HO4.out, HB4⟩
          case measure => simp [intOf]; omega
    · have hke : k = ms.length := by omega
      subst hke
      go_wp2_with fail
      go_ret
      exact ⟨_, n, rfl, ho.out, hbel.out⟩

end Go.Proofs.YtggbhggnemlpnaaGreat
