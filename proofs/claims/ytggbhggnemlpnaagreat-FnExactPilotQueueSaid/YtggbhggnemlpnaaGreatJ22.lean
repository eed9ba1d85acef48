/-
  Several texts in one: Va4, Mk3.
-/
import Derived.Test.YtggbhggnemlpnaaGreatVa3
import Derived.Test.YtggbhggnemlpnaaGreatUsd
import Derived.Test.YtggbhggnemlpnaaGreatJ20
namespace Go.Proofs.YtggbhggnemlpnaaGreat
open Go.RowKit

/-- a fleet that is found: its first four cells -/
def FndIn (p : Nat) (x : Flt) (a1 : Option Addr) (c1 : Nat) (a2 : Option Addr) (c2 : Nat) (a3 : Option Addr) (c3 : Nat) (w : World) : Prop :=
  w.cell? ⟨p, 1, none⟩ = some (.slice a1 x.berths.length c1) ∧ w.cell? ⟨p, 2, none⟩ = some (.slice a2 x.services.length c2) ∧ w.cell? ⟨p, 3, none⟩ = some (.slice a3 x.copies.length c3)

theorem FndIn.below {p : Nat} {x : Flt} {a1 : Option Addr} {c1 : Nat} {a2 : Option Addr} {c2 : Nat} {a3 : Option Addr} {c3 : Nat} {w w' : World} {B : Nat} (h : FndIn p x a1 c1 a2 c2 a3 c3 w) (hb : Below B w w') (hB : p < B) : FndIn p x a1 c1 a2 c2 a3 c3 w' :=
  ⟨(hb.cell (p := ⟨p, 1, none⟩) hB).trans h.1, (hb.cell (p := ⟨p, 2, none⟩) hB).trans h.2.1, (hb.cell (p := ⟨p, 3, none⟩) hB).trans h.2.2⟩

def fewOk (x : Flt) : Bool := decide (x.berths.length ≤ 12) && decide (x.services.length ≤ 30) && decide (x.copies.length ≤ 60)

set_option maxHeartbeats 1000000 in
theorem few_any (p : Nat) (x : Flt) (a1 : Option Addr) (c1 : Nat) (a2 : Option Addr) (c2 : Nat) (a3 : Option Addr) (c3 : Nat) (w : World) (hp : FndIn p x a1 c1 a2 c2 a3 c3 w) :
    Calls Tryz.prog 85 #[.pointer (some ⟨p, 0, none⟩)] w fun e w' => e = .returned (.bool (fewOk x)) ∧ Below w.heap.size w w' := by
  obtain ⟨p1, p2, p3⟩ := hp
  by_cases h1 : x.berths.length ≤ 12
  · by_cases h2 : x.services.length ≤ 30
    · by_cases h3 : x.copies.length ≤ 60
      · have HC : Hid (fewOk x = true) := by show _ = _; simp [fewOk, h1, h2, h3]
        go_enter Tryz.func85, Tryz.ntmps85
        go_wp2_with fail
        go_ret
        exact ⟨ret_bool (by rw [HC.out]; exact decide_eq_true (by omega)), by go_grown⟩
      · have HC : Hid (fewOk x = false) := by show _ = _; simp [fewOk, h3]
        go_enter Tryz.func85, Tryz.ntmps85
        go_wp2_with fail
        go_ret
        exact ⟨ret_bool (by rw [HC.out]; exact decide_eq_false (by omega)), by go_grown⟩
    · have HC : Hid (fewOk x = false) := by show _ = _; simp [fewOk, h2]
      go_enter Tryz.func85, Tryz.ntmps85
      go_wp2_with fail
      go_ret
      exact ⟨ret_bool HC.out.symm, by go_grown⟩
  · have HC : Hid (fewOk x = false) := by show _ = _; simp [fewOk, h1]
    go_enter Tryz.func85, Tryz.ntmps85
    go_wp2_with fail
    go_ret
    exact ⟨ret_bool HC.out.symm, by go_grown⟩

def ordOk (x : Flt) : Bool := ascTo (x.berths.map (·.name)) x.berths.length && ascTo (x.services.map (·.name)) x.services.length && ascTo (x.copies.map (·.name)) x.copies.length

set_option maxHeartbeats 1000000 in
theorem ord_any (p : Nat) (x : Flt) (a1 : Option Addr) (c1 : Nat) (a2 : Option Addr) (c2 : Nat) (a3 : Option Addr) (c3 : Nat) (lo : Nat) (w : World) (hp : FndIn p x a1 c1 a2 c2 a3 c3 w) (n1 : SliceC BrtC 6 lo w a1 x.berths) (n2 : SliceC SvcC 2 lo w a2 x.services) (n3 : SliceC CpyC 12 lo w a3 x.copies)
    (l1 : x.berths.length ≤ 1048576) (l2 : x.services.length ≤ 1048576) (l3 : x.copies.length ≤ 1048576) :
    Calls Tryz.prog 86 #[.pointer (some ⟨p, 0, none⟩)] w fun e w' => e = .returned (.bool (ordOk x)) ∧ Below w.heap.size w w' := by
  have N1 : Hid (SliceC BrtC 6 lo w a1 x.berths) := n1
  have N2 : Hid (SliceC SvcC 2 lo w a2 x.services) := n2
  have N3 : Hid (SliceC CpyC 12 lo w a3 x.copies) := n3
  have HP : Hid (FndIn p x a1 c1 a2 c2 a3 c3 w) := hp
  have hpl : p < w.heap.size := block_lt_of_cell hp.1
  obtain ⟨p1, _, _⟩ := hp
  clear n1 n2 n3
  go_enter Tryz.func86, Tryz.ntmps86
  go_wp2_with fail
  refine (ascBrt_any x.berths a1 c1 lo _ N1.out l1).mono ?_
  rintro e w1 ⟨rfl, hb1⟩
  have HP1 : Hid (FndIn p x a1 c1 a2 c2 a3 c3 w1) := HP.out.below hb1 hpl
  have HB1 : Hid (Below w.heap.size w w1) := hb1
  clear hb1 p1
  cases h1 : ascTo (x.berths.map (·.name)) x.berths.length
  · have HC : Hid (ordOk x = false) := by show _ = _; simp only [ordOk, h1, Bool.false_and]
    clear h1
    go_wp2_with fail
    go_ret
    exact ⟨ret_bool HC.out.symm, HB1.out⟩
  have H1 : Hid (ascTo (x.berths.map (·.name)) x.berths.length = true) := h1
  clear h1
  obtain ⟨_, p2, _⟩ := HP1.out
  go_wp2_with fail
  refine (ascSvc_any x.services a2 c2 lo _ (N2.out.below SvcC.holds HB1.out (Nat.le_refl _)) l2).mono ?_
  rintro e w2 ⟨rfl, hb2⟩
  have HP2 : Hid (FndIn p x a1 c1 a2 c2 a3 c3 w2) := HP1.out.below hb2 (Nat.lt_of_lt_of_le hpl HB1.out.size)
  have HB2 : Hid (Below w.heap.size w w2) := HB1.out.trans (hb2.mono HB1.out.size)
  clear hb2 p2
  cases h2 : ascTo (x.services.map (·.name)) x.services.length
  · have HC : Hid (ordOk x = false) := by show _ = _; simp only [ordOk, h2, Bool.false_and, Bool.and_false]
    clear h2
    go_wp2_with fail
    go_ret
    exact ⟨ret_bool HC.out.symm, HB2.out⟩
  have H2 : Hid (ascTo (x.services.map (·.name)) x.services.length = true) := h2
  clear h2
  obtain ⟨_, _, p3⟩ := HP2.out
  go_wp2_with fail
  refine (ascCpy_any x.copies a3 c3 lo _ (N3.out.below CpyC.holds HB2.out (Nat.le_refl _)) l3).mono ?_
  rintro e w3 ⟨rfl, hb3⟩
  have HB3 : Hid (Below w.heap.size w w3) := HB2.out.trans (hb3.mono HB2.out.size)
  have HC : Hid (ordOk x = ascTo (x.copies.map (·.name)) x.copies.length) := by show _ = _; simp only [ordOk, H1.out, H2.out, Bool.true_and]
  clear hb3 p3
  go_wp2_with fail
  go_ret
  exact ⟨ret_bool HC.out.symm, HB3.out⟩

def svcsOk (xs : List Svc) : Bool := xs.all fun s => inR s.spare 0 60

set_option maxHeartbeats 1000000 in
set_option maxRecDepth 100000 in
theorem svcs_any (p : Nat) (xs : List Svc) (a : Option Addr) (cap lo : Nat) (w : World) (hp : w.cell? ⟨p, 2, none⟩ = some (.slice a xs.length cap)) (hin : SliceC SvcC 2 lo w a xs) :
    Calls Tryz.prog 88 #[.pointer (some ⟨p, 0, none⟩)] w fun e w' => e = .returned (.bool (svcsOk xs)) ∧ Below w.heap.size w w' := by
  have hlen := hin.1
  unfold maxLen at hlen
  have HI : Hid (SliceC SvcC 2 lo w a xs) := hin
  clear hin
  go_enter Tryz.func88, Tryz.ntmps88
  go_wp2_with fail
  go_loopw [11] (fun i wr => ∃ k : Nat, k ≤ xs.length ∧ i = .int .i64 k ∧ Hid (∀ j x, j < k → xs[j]? = some x → inR x.spare 0 60 = true) ∧ Below w.heap.size w wr) (fun i _ => xs.length - (intOf i).toNat)
  case atStart => exact ⟨0, Nat.zero_le _, rfl, fun j x h => absurd h (Nat.not_lt_zero _), by go_grown⟩
  case round =>
    obtain ⟨k, hk, rfl, ho, hbel⟩ := hrel
    by_cases hlt : k < xs.length
    · obtain ⟨x, hx⟩ : ∃ x, xs[k]? = some x := ⟨xs[k], List.getElem?_eq_getElem hlt⟩
      obtain ⟨b, o, rfl, _, _, hc⟩ := (HI.out.below SvcC.holds hbel (Nat.le_refl _)).at hx
      obtain ⟨q0, q1, _⟩ := hc
      simp only [Nat.add_zero] at q0 q1
      have HX : Hid (xs[k]? = some x) := hx
      have HB : Hid (Below w.heap.size w wr) := hbel
      have HSZ : Hid (w.heap.size ≤ wr.heap.size) := hbel.size
      clear hx hbel
      go_wp2_with fail
      refine (isIn_any _ _ _ _).mono ?_
      rintro e w6 ⟨rfl, hb6⟩
      have HB6 : Hid (Below w.heap.size w w6) := (HB.out.alloc HSZ.out _).trans (hb6.mono (HB.out.alloc HSZ.out _).size)
      clear hb6 HB HSZ q0 q1
      cases hi : inR x.spare 0 60
      · have HC : Hid (svcsOk xs = false) := by
          show _ = _
          exact List.all_eq_false.mpr ⟨x, List.mem_of_getElem? HX.out, by simp [hi]⟩
        clear hi
        go_wp2_with fail
        go_ret
        exact ⟨ret_bool HC.out.symm, HB6.out⟩
      · have HO : Hid (∀ j y, j < k + 1 → xs[j]? = some y → inR y.spare 0 60 = true) := by
          intro j y hj hy
          by_cases e : j = k
          · subst e
            rw [HX.out] at hy
            cases hy
            exact hi
          · exact ho.out j y (by omega) hy
        clear hi ho
        go_wp2_with fail
        go_roundw
        case rel => exact ⟨k + 1, by omega, by go_num, HO, HB6.out⟩
        case measure => simp [intOf]; omega
    · have hke : k = xs.length := by omega
      subst hke
      have HC : Hid (svcsOk xs = true) := by
        show _ = _
        simp only [svcsOk, List.all_eq_true]
        intro x hx
        obtain ⟨j, hj, e⟩ := List.mem_iff_getElem.mp hx
        exact ho.out j x hj (by rw [List.getElem?_eq_getElem hj, e])
      clear ho
      go_wp2_with fail
      go_ret
      exact ⟨ret_bool HC.out.symm, hbel⟩

end Go.Proofs.YtggbhggnemlpnaaGreat

namespace Go.Proofs.YtggbhggnemlpnaaGreat
open Go.RowKit Go.WideMaps Go.Maps

/-- the mark at a place is one, stands behind the one ahead of it, and has a name of its own -/
def mkAt (ms : List ByteArray) : Nat → Bool
  | 0 => match ms[0]? with
    | none => true
    | some m => isMk m && decide (cntOf (mName m) (keysR ms ms.length) ≤ 1)
  | j + 1 => match ms[j + 1]?, ms[j]? with
    | some m, some t => isMk m && Op.bytesLess t.toList m.toList && decide (cntOf (mName m) (keysR ms ms.length) ≤ 1)
    | _, _ => true

def mkTo (ms : List ByteArray) : Nat → Bool
  | 0 => true
  | k + 1 => mkTo ms k && mkAt ms k

def mkOk (ms : List ByteArray) : Bool := decide (ms.length ≤ 10) && mkTo ms ms.length

theorem mkTo_false {ms : List ByteArray} {k : Nat} (h : mkAt ms k = false) : ∀ n, k < n → mkTo ms n = false
  | 0, hn => absurd hn (Nat.not_lt_zero _)
  | n + 1, hn => by
    by_cases e : k = n
    · subst e; simp only [mkTo, h, Bool.and_false]
    · simp only [mkTo, mkTo_false h n (by omega), Bool.false_and]

theorem mkTo_step {ms : List ByteArray} {k : Nat} (h : mkTo ms k = true) (h' : mkAt ms k = true) : mkTo ms (k + 1) = true := by
  simp only [mkTo, h, h', Bool.and_self]

theorem mkOk_false {ms : List ByteArray} {k : Nat} (h : mkAt ms k = false) (hk : k < ms.length) : mkOk ms = false := by
  simp only [mkOk, mkTo_false h _ hk, Bool.and_false]

set_option maxHeartbeats 2000000 in
set_option maxRecDepth 100000 in
theorem marksOk_any (ms : List ByteArray) (a : Option Addr) (cap lo : Nat) (w : World) (hin : SliceC StrC 1 lo w a ms) :
    Calls Tryz.prog 108 #[.slice a ms.length cap] w fun e w' => e = .returned (.bool (mkOk ms)) ∧ Below w.heap.size w w' := by
  have hlen := hin.1
  unfold maxLen at hlen
  have HI : Hid (SliceC StrC 1 lo w a ms) := hin
  clear hin
  by_cases h10 : ms.length ≤ 10
  · have HM : Hid (mkOk ms = mkTo ms ms.length) := by show _ = _; simp [mkOk, h10]
    have HF : Hid (∀ k, mkAt ms k = false → k < ms.length → mkOk ms = false) := fun k h hk => mkOk_false h hk
    go_enter Tryz.func108, Tryz.ntmps108
    go_wp2_with fail
    refine (marksOf_any ms a cap lo _ HI.out (by omega)).mono ?_
    rintro e w1 ⟨mb, n, rfl, ho1, hb1⟩
    have HO1 : Hid (w1.ownsMap Tryz.prog 9 (plainElem Tryz.prog 3) mb n (cntR (keysR ms ms.length))) := ho1
    have HB1 : Hid (Below w.heap.size w w1) := hb1
    clear ho1 hb1
    have HCN : Hid (∀ t, (cntR (keysR ms ms.length)).atKey (kOf t) (.lit (.int .i64 0)) = .lit (.int .i64 ((cntOf t (keysR ms ms.length) : Nat) : Int))) := fun t => at_cntR t _
    have HA0 : Hid (∀ m, ms[0]? = some m → mkAt ms 0 = (isMk m && decide (cntOf (mName m) (keysR ms ms.length) ≤ 1))) := fun m h => by simp only [mkAt, h]
    have HAJ : Hid (∀ j m t, ms[j + 1]? = some m → ms[j]? = some t → mkAt ms (j + 1) = (isMk m && Op.bytesLess t.toList m.toList && decide (cntOf (mName m) (keysR ms ms.length) ≤ 1))) := fun j m t h h' => by simp only [mkAt, h, h']
    have HKL : Hid ((keysR ms ms.length).length ≤ 2 * ms.length) := keysR_len ms _
    generalize keysR ms ms.length = R at *
    go_wp2_with fail
    go_loopw [16] (fun i wr => ∃ k : Nat, k ≤ ms.length ∧ i = .int .i64 k ∧ Hid (mkTo ms k = true) ∧ Hid (wr.ownsMap Tryz.prog 9 (plainElem Tryz.prog 3) mb n (cntR R)) ∧ Hid (Below w.heap.size w wr)) (fun i _ => ms.length - (intOf i).toNat)
    case atStart => exact ⟨0, Nat.zero_le _, rfl, rfl, HO1, HB1⟩
    case round =>
      clear HO1 HB1
      obtain ⟨k, hk, rfl, ht, ho, hb⟩ := hrel
      by_cases hlt : k < ms.length
      · obtain ⟨m, hm⟩ : ∃ m, ms[k]? = some m := ⟨ms[k], List.getElem?_eq_getElem hlt⟩
        obtain ⟨b, o, rfl, _, _, hc⟩ := (HI.out.below StrC.holds hb.out (Nat.le_refl _)).at hm
        obtain ⟨q0, z0⟩ := hc
        simp only [Nat.mul_one, Nat.add_zero] at q0
        have HX : Hid (ms[k]? = some m) := hm
        have HZ : Hid (m.size ≤ maxLen) := z0
        clear hm z0
        go_wp2_with fail
        refine (isMark_any m _ HZ.out).mono ?_
        rintro e w2 ⟨rfl, hb2⟩
        have HB2 : Hid (Below w.heap.size w w2) := hb.out.trans (hb2.mono hb.out.size)
        have HO2 : Hid (w2.ownsMap Tryz.prog 9 (plainElem Tryz.prog 3) mb n (cntR R)) := ownsMap_below ho.out hb2 ho.out.lt
        have HI2 : Hid (SliceC StrC 1 lo w2 (some ⟨b, o, none⟩) ms) := HI.out.below StrC.holds HB2.out (Nat.le_refl _)
        clear hb2 hb ho q0
        have hkn : keyOf Tryz.prog 9 (.string (mName m)) = some (kOf (mName m)) := keyOf_string_mk Tryz.underlying9 (mName_size HZ.out)
        cases k with
        | zero =>
          have HAT : Hid (mkAt ms 0 = (isMk m && decide (cntOf (mName m) R ≤ 1))) := HA0.out m HX.out
          cases hmk : isMk m with
          | false =>
            have HC : Hid (mkOk ms = false) := HF.out 0 (by rw [HAT.out, hmk]; rfl) hlt
            clear hmk
            go_wp2_with fail
            go_ret
            exact ⟨ret_bool HC.out.symm, HB2.out⟩
          | true =>
            rw [hmk, Bool.true_and] at HAT
            clear hmk
            go_wp2_with fail
            refine (cut_any m _ HZ.out).mono ?_
            rintro e w3 ⟨rfl, hb3⟩
            have HB3 : Hid (Below w.heap.size w w3) := HB2.out.trans (hb3.mono HB2.out.size)
            have HO3 : Hid (w3.ownsMap Tryz.prog 9 (plainElem Tryz.prog 3) mb n (cntR R)) := ownsMap_below HO2.out hb3 HO2.out.lt
            have HAC : Hid ((cntR R).atKey (kOf (mName m)) (.lit (.int .i64 0)) = .lit (.int .i64 ((cntOf (mName m) R : Nat) : Int))) := HCN.out _
            clear hb3 HB2 HO2 HI2
            generalize mName m = nm at *
            generalize mVal m = vl at *
            generalize decide (eqIdx m < 0) = bb at *
            generalize cntOf nm R = c0 at *
            by_cases hc : c0 ≤ 1
            · have HN : Hid (mkTo ms (0 + 1) = true) := mkTo_step ht.out (by rw [HAT.out]; exact decide_eq_true hc)
              clear HAT ht
              go_wp2_with (at_lookup; refine wpList_lookup_own_int _ rfl _ _ 179 rfl 9 3 .i64 law_str Tryz.underlying179 Tryz.underlying3 (zero_int _) mb _ _ rfl HO3.out _ _ rfl hkn ?_; intro c hcc _; obtain rfl := lit_int_inj (hcc.symm.trans HAC.out))
              go_roundw
              case rel => exact ⟨0 + 1, by omega, by go_num, HN, HO3, HB3⟩
              case measure => simp [intOf]; omega
            · have HC : Hid (mkOk ms = false) := HF.out 0 (by rw [HAT.out]; simp [hc]) hlt
              clear HAT ht
              go_wp2_with (at_lookup; refine wpList_lookup_own_int _ rfl _ _ 179 rfl 9 3 .i64 law_str Tryz.underlying179 Tryz.underlying3 (zero_int _) mb _ _ rfl HO3.out _ _ rfl hkn ?_; intro c hcc _; obtain rfl := lit_int_inj (hcc.symm.trans HAC.out))
              go_ret
              exact ⟨ret_bool HC.out.symm, HB3.out⟩
        | succ j =>
          obtain ⟨t, htt⟩ : ∃ t, ms[j]? = some t := ⟨ms[j], List.getElem?_eq_getElem (by omega)⟩
          have HAT : Hid (mkAt ms (j + 1) = (isMk m && Op.bytesLess t.toList m.toList && decide (cntOf (mName m) R ≤ 1))) := HAJ.out j m t HX.out htt
          obtain ⟨b', o', hbo, _, _, hc'⟩ := HI2.out.at htt
          cases hbo
          obtain ⟨q1, z1⟩ := hc'
          simp only [Nat.mul_one, Nat.add_zero] at q1
          have hjl : j < ms.length := by omega
          clear htt z1
          cases hmk : isMk m with
          | false =>
            have HC : Hid (mkOk ms = false) := HF.out (j + 1) (by rw [HAT.out, hmk]; rfl) hlt
            clear hmk
            go_wp2_with fail
            go_ret
            exact ⟨ret_bool HC.out.symm, HB2.out⟩
          | true =>
            rw [hmk, Bool.true_and] at HAT
            clear hmk
            cases hless : Op.bytesLess t.toList m.toList with
            | false =>
              have HC : Hid (mkOk ms = false) := HF.out (j + 1) (by rw [HAT.out, hless]; rfl) hlt
              go_wp2_with fail
              go_ret
              exact ⟨ret_bool HC.out.symm, HB2.out⟩
            | true =>
              rw [hless, Bool.true_and] at HAT
              go_wp2_with fail
              refine (cut_any m _ HZ.out).mono ?_
              rintro e w3 ⟨rfl, hb3⟩
              have HB3 : Hid (Below w.heap.size w w3) := HB2.out.trans (hb3.mono HB2.out.size)
              have HO3 : Hid (w3.ownsMap Tryz.prog 9 (plainElem Tryz.prog 3) mb n (cntR R)) := ownsMap_below HO2.out hb3 HO2.out.lt
              have HAC : Hid ((cntR R).atKey (kOf (mName m)) (.lit (.int .i64 0)) = .lit (.int .i64 ((cntOf (mName m) R : Nat) : Int))) := HCN.out _
              clear hb3 HB2 HO2 HI2
              generalize mName m = nm at *
              generalize mVal m = vl at *
              generalize decide (eqIdx m < 0) = bb at *
              generalize cntOf nm R = c0 at *
              by_cases hc : c0 ≤ 1
              · have HN : Hid (mkTo ms ((j + 1) + 1) = true) := mkTo_step ht.out (by rw [HAT.out]; exact decide_eq_true hc)
                clear HAT ht
                go_wp2_with (at_lookup; refine wpList_lookup_own_int _ rfl _ _ 179 rfl 9 3 .i64 law_str Tryz.underlying179 Tryz.underlying3 (zero_int _) mb _ _ rfl HO3.out _ _ rfl hkn ?_; intro c hcc _; obtain rfl := lit_int_inj (hcc.symm.trans HAC.out))
                go_roundw
                case rel => exact ⟨(j + 1) + 1, by omega, by go_num, HN, HO3, HB3⟩
                case measure => simp [intOf]; omega
              · have HC : Hid (mkOk ms = false) := HF.out (j + 1) (by rw [HAT.out]; simp [hc]) hlt
                clear HAT ht
                go_wp2_with (at_lookup; refine wpList_lookup_own_int _ rfl _ _ 179 rfl 9 3 .i64 law_str Tryz.underlying179 Tryz.underlying3 (zero_int _) mb _ _ rfl HO3.out _ _ rfl hkn ?_; intro c hcc _; obtain rfl := lit_int_inj (hcc.symm.trans HAC.out))
                go_ret
                exact ⟨ret_bool HC.out.symm, HB3.out⟩
      · have hke : k = ms.length := by omega
        subst hke
        have HC : Hid (mkOk ms = true) := by show _ = _; rw [HM.out]; exact ht.out
        clear ht
        go_wp2_with fail
        go_ret
        exact ⟨ret_bool HC.out.symm, hb.out⟩
  · have HM : Hid (mkOk ms = false) := by show _ = _; simp [mkOk, h10]
    go_enter Tryz.func108, Tryz.ntmps108
    go_wp2_with fail
    go_ret
    exact ⟨ret_bool HM.out.symm, by go_grown⟩

end Go.Proofs.YtggbhggnemlpnaaGreat
