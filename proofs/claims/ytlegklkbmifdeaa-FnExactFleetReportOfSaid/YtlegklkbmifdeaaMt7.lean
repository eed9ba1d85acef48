/-
  The program's checks of a list of wants. Made by mkmt7.py.
-/
import Derived.Test.YtlegklkbmifdeaaMt5
import Derived.Maps.Own
import Derived.Maps.OwnSet
import Derived.Maps.Views
import Derived.Maps.OwnOps
namespace Go.Proofs.Ytlegklkbmifdeaa
open Go.RowKit Go.WideMaps Go.Maps

theorem law_str : Keyed Try.prog 9 := string_keyed Try.underlying9
theorem zero_int (w : World) : (zeroValue 3).run Try.prog w = .ok (.int .i64 0) w := by kernel_rfl

theorem run_makeMapHint {P : Program} {t k e : TypeId} (hu : P.underlying t = some (.map k e)) (q : IntKind) (n : Int) (w : World) : (Instr.makeMap t (some (.int q n))).run P w = .ok (.map (some w.heap.size)) (w.alloc (.map #[] 0)) := by
  simp [Instr.makeMap, run_underlying hu, asInt, asIntOf, Result.andThen]

theorem ownsMap_below {H : Type} {P : Program} {k : TypeId} {R : Value → Option (DataW H × List MemPlace)} {b n : Nat} {D : DataW H} {w w' : World} {B : Nat} (h : w.ownsMap P k R b n D) (hb : Below B w w') (hB : b < B) : w'.ownsMap P k R b n D := by
  obtain ⟨es, clock, h1, h2, h3, h4⟩ := h
  exact ⟨es, clock, (hb.block b hB).trans h1, h2, h3, h4⟩

/-- a text as a key -/
def kOf (s : ByteArray) : Lit := .string s.data.toList

theorem kOf_inj {s t : ByteArray} (h : kOf s = kOf t) : s = t := by
  unfold kOf at h
  injection h with h
  cases s with | mk a => cases t with | mk b => simp at h; simp [h]

/-- how often a text is in a list -/
def cntOf (t : ByteArray) (r : List ByteArray) : Nat := r.countP (fun s => decide (s = t))

theorem cntOf_le (t : ByteArray) (r : List ByteArray) : cntOf t r ≤ r.length := List.countP_le_length
theorem cntOf_same (t : ByteArray) (r : List ByteArray) : cntOf t (t :: r) = cntOf t r + 1 := by simp [cntOf]
theorem cntOf_other {t s : ByteArray} (h : ¬ s = t) (r : List ByteArray) : cntOf t (s :: r) = cntOf t r := by simp [cntOf, h]

/-- the map that counts keys, the last one in front -/
def cntR : List ByteArray → DataW Unit
  | [] => .map []
  | s :: r => (cntR r).put (kOf s) (.lit (.int .i64 (((cntOf s r : Nat) : Int) + 1)))

theorem cntR_isMap : ∀ r, IsMap (cntR r)
  | [] => ⟨_, rfl⟩
  | _ :: r => IsMap.put (cntR_isMap r) _ _

theorem at_cntR (t : ByteArray) : ∀ r : List ByteArray, (cntR r).atKey (kOf t) (.lit (.int .i64 0)) = .lit (.int .i64 ((cntOf t r : Nat) : Int))
  | [] => rfl
  | s :: r => by
    unfold cntR
    by_cases e : s = t
    · subst e
      rw [atKey_put_same (cntR_isMap r) (show WideAt.IsKeyLit (kOf _) from trivial), cntOf_same]
      simp
    · rw [atKey_put_other (fun h => e (kOf_inj h).symm), at_cntR t r, cntOf_other e]

theorem lit_int_inj {a b : Int} (h : (DataW.lit (Lit.int .i64 a) : DataW Unit) = .lit (.int .i64 b)) : a = b := by
  injection h with h
  injection h

/-- the first k texts, the last one in front -/
def hR (hs : List ByteArray) : Nat → List ByteArray
  | 0 => []
  | k + 1 => match hs[k]? with
    | some h => h :: hR hs k
    | none => hR hs k

theorem hR_step {hs : List ByteArray} {k : Nat} {h : ByteArray} (e : hs[k]? = some h) : hR hs (k + 1) = h :: hR hs k := by simp [hR, e]

theorem hR_len (hs : List ByteArray) : ∀ k, (hR hs k).length ≤ k
  | 0 => by simp [hR]
  | k + 1 => by
    have := hR_len hs k
    unfold hR
    split
    · simp; omega
    · omega

/-- a text is empty, or not among those ahead of it -/
def difAt (hs : List ByteArray) (k : Nat) : Bool := match hs[k]? with
  | some h => h.toList == [] || decide (cntOf h (hR hs k) = 0)
  | none => true
def difTo (hs : List ByteArray) : Nat → Bool
  | 0 => true
  | k + 1 => difTo hs k && difAt hs k

theorem difTo_false {hs : List ByteArray} {k : Nat} (h : difAt hs k = false) : ∀ n, k < n → difTo hs n = false
  | 0, hn => absurd hn (Nat.not_lt_zero _)
  | n + 1, hn => by
    by_cases e : k = n
    · subst e; simp only [difTo, h, Bool.and_false]
    · simp only [difTo, difTo_false h n (by omega), Bool.false_and]

theorem difAt_at {hs : List ByteArray} {k : Nat} {h : ByteArray} (e : hs[k]? = some h) : difAt hs k = (h.toList == [] || decide (cntOf h (hR hs k) = 0)) := by
  simp only [difAt, e]

theorem wnt_range {w : World} {b o : Nat} {x : Wnt} {lo : Nat} (h : WntC lo w (fun i => w.cell? ⟨b, o + i, none⟩) x) : w.rangeAt b o [.string x.copy, .int .i64 x.version, .string x.hold, .int .i64 x.pull, .int .i64 x.start, .int .i64 x.dies, .int .i64 x.grace] := by
  obtain ⟨q0, q1, q2, q3, q4, q5, q6, _, _⟩ := h
  simp only [Nat.add_zero] at q0 q1 q2 q3 q4 q5 q6
  exact range_cons q0 (range_cons q1 (range_cons q2 (range_cons q3 (range_cons q4 (range_cons q5 (range_cons q6 (range_nil _ _ _)))))))

theorem look_cnt {R : List ByteArray} {m n : Nat} {w : World} {s : ByteArray} {c0 : Int} (h : w.ownsMap Try.prog 9 (plainElem Try.prog 3) m n (cntR R)) (hs : s.size ≤ maxLen) (hA : (cntR R).atKey (kOf s) (.lit (.int .i64 0)) = .lit (.int .i64 c0)) :
    (Instr.lookup 118 (.map (some m)) (.string s) false).run Try.prog w = .ok (.int .i64 c0) w := by
  have hkey : keyOf Try.prog 9 (.string s) = some (kOf s) := keyOf_string_mk Try.underlying9 hs
  obtain ⟨c, hrun, hc, _⟩ := h.lookup_int law_str Try.underlying118 Try.underlying3 (zero_int w) hkey
  rw [hrun, lit_int_inj (hc.symm.trans hA)]

set_option maxHeartbeats 400000 in
theorem few_any (xs : List Wnt) (a : Option Addr) (cap : Nat) (w : World) :
    Calls Try.prog 84 #[.slice a xs.length cap] w fun e w' => e = .returned (.bool (decide (xs.length ≤ 10))) ∧ Below w.heap.size w w' := by
  by_cases h : xs.length ≤ 10
  · have h' : (xs.length : Int) ≤ 10 := by omega
    have HC : Hid (decide (xs.length ≤ 10) = true) := decide_eq_true h
    clear h
    go_enter Try.func84, Try.ntmps84
    go_wp2_with fail
    go_ret
    exact ⟨ret_bool HC.out.symm, by go_grown⟩
  · have h' : (10 : Int) < (xs.length : Int) := by omega
    have HC : Hid (decide (xs.length ≤ 10) = false) := decide_eq_false h
    clear h
    go_enter Try.func84, Try.ntmps84
    go_wp2_with fail
    go_ret
    exact ⟨ret_bool (by rw [HC.out]; simp; omega), by go_grown⟩

set_option maxHeartbeats 400000 in
theorem wasc_any (xs : List Wnt) (a : Option Addr) (cap lo : Nat) (w : World) (hin : SliceC WntC 7 lo w a xs) (hsm : xs.length ≤ 1048576) :
    Calls Try.prog 85 #[.slice a xs.length cap] w fun e w' => e = .returned (.bool (ascTo (xs.map (·.copy)) xs.length)) ∧ Below w.heap.size w w' := by
  go_enter Try.func85, Try.ntmps85
  go_wp2_with fail
  refine (ascWnt_any xs a cap lo _ hin hsm).mono ?_
  rintro e w1 ⟨rfl, hb1⟩
  go_wp2_with fail
  go_ret
  exact ⟨rfl, hb1⟩

theorem all_no {xs : List Wnt} {k : Nat} {x : Wnt} (h : xs[k]? = some x) (hr : wnB x = false) : xs.all wnB = false := by
  rw [List.all_eq_false]
  exact ⟨x, List.mem_of_getElem? h, by simp [hr]⟩

theorem all_yes {xs : List Wnt} (h : ∀ (j : Nat) x, j < xs.length → xs[j]? = some x → wnB x = true) : xs.all wnB = true := by
  rw [List.all_eq_true]
  intro r hr
  obtain ⟨j, hj, e⟩ := List.getElem_of_mem hr
  exact h j r hj (by rw [List.getElem?_eq_getElem hj, e])

set_option maxHeartbeats 2000000 in
set_option maxRecDepth 100000 in
theorem eachOk_any (xs : List Wnt) (a : Option Addr) (cap lo : Nat) (w : World) (hin : SliceC WntC 7 lo w a xs) (hsm : xs.length ≤ 1048576) :
    Calls Try.prog 86 #[.slice a xs.length cap] w fun e w' => e = .returned (.bool (xs.all wnB)) ∧ Below w.heap.size w w' := by
    have HI : Hid (SliceC WntC 7 lo w a xs) := hin
    clear hin
    go_enter Try.func86, Try.ntmps86
    go_wp2_with fail
    go_loopw [7] (fun i wr => ∃ k : Nat, k ≤ xs.length ∧ i = .int .i64 k ∧ Hid (∀ (j : Nat) x, j < k → xs[j]? = some x → wnB x = true) ∧ Below w.heap.size w wr) (fun i _ => xs.length - (intOf i).toNat)
    case atStart => exact ⟨0, Nat.zero_le _, rfl, fun j q h => by omega, by go_grown⟩
    case round =>
      obtain ⟨k, hk, rfl, hN, hB⟩ := hrel
      by_cases hlt : k < xs.length
      · obtain ⟨x, hx⟩ : ∃ x, xs[k]? = some x := ⟨xs[k], List.getElem?_eq_getElem hlt⟩
        obtain ⟨b, o, rfl, _, hbl, hc⟩ := (HI.out.below WntC.holds hB (Nat.le_refl _)).at hx
        have HRA := Hid.intro (wnt_range hc)
        obtain ⟨_, _, _, _, _, _, _, z0, z2⟩ := hc
        have Z0 := Hid.intro z0
        have Z2 := Hid.intro z2
        have HXX := Hid.intro hx
        clear z0 z2 hx
        have hza : Blk wr.heap.size #[.string ⟨#[]⟩, .int .i64 0, .string ⟨#[]⟩, .int .i64 0, .int .i64 0, .int .i64 0, .int .i64 0] 48 (wr.alloc (Obj.cells #[.string ⟨#[]⟩, .int .i64 0, .string ⟨#[]⟩, .int .i64 0, .int .i64 0, .int .i64 0, .int .i64 0] 48)) := Blk.alloc _ _ _
        have HTS : Hid ((wr.alloc (Obj.cells #[.string ⟨#[]⟩, .int .i64 0, .string ⟨#[]⟩, .int .i64 0, .int .i64 0, .int .i64 0, .int .i64 0] 48)).there wr.heap.size 0 7) := hza.there
        obtain ⟨w4, HW4⟩ : ∃ w4, Hid (w4 = (wr.alloc (Obj.cells #[.string ⟨#[]⟩, .int .i64 0, .string ⟨#[]⟩, .int .i64 0, .int .i64 0, .int .i64 0, .int .i64 0] 48)).setCells wr.heap.size 0 [.string x.copy, .int .i64 x.version, .string x.hold, .int .i64 x.pull, .int .i64 x.start, .int .i64 x.dies, .int .i64 x.grace]) := ⟨_, rfl⟩
        have HK4 : Hid (Blk wr.heap.size #[.string x.copy, .int .i64 x.version, .string x.hold, .int .i64 x.pull, .int .i64 x.start, .int .i64 x.dies, .int .i64 x.grace] 48 w4) := by
          show Blk _ _ _ _
          rw [HW4.out]
          exact hza.setAll #[.string x.copy, .int .i64 x.version, .string x.hold, .int .i64 x.pull, .int .i64 x.start, .int .i64 x.dies, .int .i64 x.grace] rfl
        have hbx : Below wr.heap.size wr w4 := by
          rw [HW4.out]
          exact below_setCells (Nat.le_refl _) _ _ _ ((Below.refl _ wr).alloc (Nat.le_refl _) _)
        have hB4 : Below w.heap.size w w4 := hB.trans (hbx.mono hB.size)
        clear hza hbx
        go_upto_region 4 with (first | (refine wpList_load_mid rfl 48 _ rfl b (o + k * 7) (by first | rfl | (simp [go_sem]; done)) [.string x.copy, .int .i64 x.version, .string x.hold, .int .i64 x.pull, .int .i64 x.start, .int .i64 x.dies, .int .i64 x.grace] _ HRA.out Try.underlying48 rfl isz_Wnt ?_) | (refine wpList_store_to rfl 48 _ _ rfl wr.heap.size 0 #[.string x.copy, .int .i64 x.version, .string x.hold, .int .i64 x.pull, .int .i64 x.start, .int .i64 x.dies, .int .i64 x.grace] rfl rfl HTS.out isz_Wnt (by simp [Value.oneCell']) w4 HW4.out ?_))
        clear HRA HTS HW4
        go_wp2_with (first | (refine wpList_load_mid rfl 48 _ rfl wr.heap.size 0 (by first | rfl | (simp [go_sem]; done)) [.string x.copy, .int .i64 x.version, .string x.hold, .int .i64 x.pull, .int .i64 x.start, .int .i64 x.dies, .int .i64 x.grace] _ HK4.out.rangeA Try.underlying48 rfl isz_Wnt ?_))
        refine (mwantOk_any x _ Z0.out Z2.out).mono ?_
        rintro e w6 ⟨rfl, hb6⟩
        have hB6 := hB4.trans (hb6.mono hB4.size)
        clear hb6 hB4
        cases hro : wnB x with
        | false =>
          have HE := Hid.intro (all_no HXX.out hro)
          clear hro
          go_wp2_with fail
          go_ret
          exact ⟨ret_bool HE.out.symm, hB6⟩
        | true =>
          have HN2 : Hid (∀ (j : Nat) y, j < k + 1 → xs[j]? = some y → wnB y = true) := fun j y hj hy => by
            by_cases e : j = k
            · subst e
              have := HXX.out.symm.trans hy
              cases this
              exact hro
            · exact hN.out j y (by omega) hy
          clear hro
          go_wp2_with fail
          go_roundw
          case rel => exact ⟨k + 1, by omega, by go_num, HN2, hB6⟩
          case measure => simp [intOf]; omega
      · have hke : k = xs.length := by omega
        subst hke
        have HE := Hid.intro (all_yes hN.out)
        go_wp2_with fail
        go_ret
        exact ⟨ret_bool HE.out.symm, hB⟩

set_option maxHeartbeats 4000000 in
set_option maxRecDepth 100000 in
theorem differ_any (xs : List Wnt) (a : Option Addr) (cap lo : Nat) (w : World) (hin : SliceC WntC 7 lo w a xs) (hsm : xs.length ≤ 1048576) :
    Calls Try.prog 87 #[.slice a xs.length cap] w fun e w' => e = .returned (.bool (difTo (xs.map (·.hold)) xs.length)) ∧ Below w.heap.size w w' := by
    have hmm : ∀ q n w, (Instr.makeMap 118 (some (.int q n))).run Try.prog w = .ok (.map (some w.heap.size)) (w.alloc (.map #[] 0)) := fun q n w => run_makeMapHint Try.underlying118 q n w
    have HI : Hid (SliceC WntC 7 lo w a xs) := hin
    clear hin
    go_enter Try.func87, Try.ntmps87
    go_wp2_with fail
    go_loopw [11] (fun i wr => ∃ k n : Nat, k ≤ xs.length ∧ i = .int .i64 k ∧ Hid (n ≤ k) ∧ Hid (wr.ownsMap Try.prog 9 (plainElem Try.prog 3) w.heap.size n (cntR (hR (xs.map (·.hold)) k))) ∧ Hid (difTo (xs.map (·.hold)) k = true) ∧ Below w.heap.size w wr) (fun i _ => xs.length - (intOf i).toNat)
    case atStart => exact ⟨0, 0, Nat.zero_le _, rfl, Nat.le_refl _, World.ownsMap_made _ _ _ _, rfl, (Below.refl _ _).alloc (Nat.le_refl _) _⟩
    case round =>
      clear hmm
      obtain ⟨k, n, hk, rfl, hn, ho, hD, hB⟩ := hrel
      by_cases hlt : k < xs.length
      · obtain ⟨x, hx⟩ : ∃ x, xs[k]? = some x := ⟨xs[k], List.getElem?_eq_getElem hlt⟩
        obtain ⟨b, o, rfl, _, hbl, hc⟩ := (HI.out.below WntC.holds hB (Nat.le_refl _)).at hx
        have HRA := Hid.intro (wnt_range hc)
        obtain ⟨_, _, _, _, _, _, _, z0, z2⟩ := hc
        have Z0 := Hid.intro z0
        have Z2 := Hid.intro z2
        have HXX := Hid.intro hx
        clear z0 z2 hx
        have hza : Blk wr.heap.size #[.string ⟨#[]⟩, .int .i64 0, .string ⟨#[]⟩, .int .i64 0, .int .i64 0, .int .i64 0, .int .i64 0] 48 (wr.alloc (Obj.cells #[.string ⟨#[]⟩, .int .i64 0, .string ⟨#[]⟩, .int .i64 0, .int .i64 0, .int .i64 0, .int .i64 0] 48)) := Blk.alloc _ _ _
        have HTS : Hid ((wr.alloc (Obj.cells #[.string ⟨#[]⟩, .int .i64 0, .string ⟨#[]⟩, .int .i64 0, .int .i64 0, .int .i64 0, .int .i64 0] 48)).there wr.heap.size 0 7) := hza.there
        obtain ⟨w4, HW4⟩ : ∃ w4, Hid (w4 = (wr.alloc (Obj.cells #[.string ⟨#[]⟩, .int .i64 0, .string ⟨#[]⟩, .int .i64 0, .int .i64 0, .int .i64 0, .int .i64 0] 48)).setCells wr.heap.size 0 [.string x.copy, .int .i64 x.version, .string x.hold, .int .i64 x.pull, .int .i64 x.start, .int .i64 x.dies, .int .i64 x.grace]) := ⟨_, rfl⟩
        have HK4 : Hid (Blk wr.heap.size #[.string x.copy, .int .i64 x.version, .string x.hold, .int .i64 x.pull, .int .i64 x.start, .int .i64 x.dies, .int .i64 x.grace] 48 w4) := by
          show Blk _ _ _ _
          rw [HW4.out]
          exact hza.setAll #[.string x.copy, .int .i64 x.version, .string x.hold, .int .i64 x.pull, .int .i64 x.start, .int .i64 x.dies, .int .i64 x.grace] rfl
        have hbx : Below wr.heap.size wr w4 := by
          rw [HW4.out]
          exact below_setCells (Nat.le_refl _) _ _ _ ((Below.refl _ wr).alloc (Nat.le_refl _) _)
        have hB4 : Below w.heap.size w w4 := hB.trans (hbx.mono hB.size)
        have HO4 := Hid.intro (ownsMap_below ho.out hbx ho.out.lt)
        have k2 : w4.cell? ⟨wr.heap.size, 2, none⟩ = some (.string x.hold) := HK4.out.cell rfl
        have hs4 : w.heap.size < wr.heap.size := ho.out.lt
        clear hza hbx ho
        go_upto_region 5 with (first | (refine wpList_load_mid rfl 48 _ rfl b (o + k * 7) (by first | rfl | (simp [go_sem]; done)) [.string x.copy, .int .i64 x.version, .string x.hold, .int .i64 x.pull, .int .i64 x.start, .int .i64 x.dies, .int .i64 x.grace] _ HRA.out Try.underlying48 rfl isz_Wnt ?_) | (refine wpList_store_to rfl 48 _ _ rfl wr.heap.size 0 #[.string x.copy, .int .i64 x.version, .string x.hold, .int .i64 x.pull, .int .i64 x.start, .int .i64 x.dies, .int .i64 x.grace] rfl rfl HTS.out isz_Wnt (by simp [Value.oneCell']) w4 HW4.out ?_))
        clear HRA HTS HW4
        have HHX : Hid ((xs.map (·.hold))[k]? = some x.hold) := by show _ = _; rw [List.getElem?_map, HXX.out]; rfl
        have HHS := Hid.intro (hR_step HHX.out)
        have HDA := Hid.intro (difAt_at HHX.out)
        have HL := Hid.intro (hR_len (xs.map (·.hold)) k)
        have hkm : keyOf Try.prog 9 (.string x.hold) = some (kOf x.hold) := keyOf_string_mk Try.underlying9 Z2.out
        generalize hR (xs.map (·.hold)) k = R at HHS HDA HL HO4
        obtain ⟨c0, hc0⟩ : ∃ c0 : Nat, c0 = cntOf x.hold R := ⟨_, rfl⟩
        have HA0 : Hid ((cntR R).atKey (kOf x.hold) (.lit (.int .i64 0)) = .lit (.int .i64 (c0 : Int))) := by show _ = _; rw [hc0]; exact at_cntR x.hold R
        have HA1 : Hid ((cntR (x.hold :: R)).atKey (kOf x.hold) (.lit (.int .i64 0)) = .lit (.int .i64 ((c0 : Int) + 1))) := by show _ = _; rw [at_cntR, hc0, cntOf_same]; rfl
        have hc0l : c0 ≤ 2097152 := by have := cntOf_le x.hold R; have := HL.out; omega
        have HC0 : Hid (cntR (x.hold :: R) = (cntR R).put (kOf x.hold) (.lit (.int .i64 ((c0 : Int) + 1)))) := by show _ = _; rw [hc0]; rfl
        rw [← hc0] at HDA
        clear hc0
        go_upto_region 6 with (first | (at_lookup; refine wpList_lookup_own_int _ rfl _ _ 118 rfl 9 3 .i64 law_str Try.underlying118 Try.underlying3 (zero_int _) w.heap.size _ _ rfl HO4.out _ _ rfl hkm ?_; intro c hcc _; obtain rfl := lit_int_inj (hcc.symm.trans HA0.out)) | (at_mapUpdate; refine wpList_mapUpdate_own _ rfl _ _ _ 118 rfl 9 3 law_str Try.underlying118 _ w.heap.size n _ rfl HO4.out (by have := hn.out; unfold maxLen; omega) _ _ _ rfl rfl hkm _ [] (plainElem_int Try.underlying3 (WalkArith.wf_i64 (by omega))) ?_; intro w5 hown5 hgrow5))
        have HO5 : Hid (w5.ownsMap Try.prog 9 (plainElem Try.prog 3) w.heap.size (n + 1) (cntR (x.hold :: R))) := HC0.out.symm ▸ hown5
        have HB5 : Below w.heap.size w w5 := hB4.grown hgrow5 hB4.size (fun j hj => by cases hj; exact Nat.le_refl _)
        have m2 : w5.cell? ⟨wr.heap.size, 2, none⟩ = some (.string x.hold) := hgrow5.cell k2 (fun h => absurd (Option.some.inj h) (by show ¬ _ = _; simp; omega))
        clear hown5 hgrow5 HO4 HA0 HC0 k2 HK4 hB4
        have yl : (Instr.lookup 118 (.map (some w.heap.size)) (.string x.hold) false).run Try.prog w5 = .ok (.int .i64 ((c0 : Int) + 1)) w5 := look_cnt HO5.out Z2.out HA1.out
        clear hcc HA1 hkm
        have HO6 : Hid (w5.ownsMap Try.prog 9 (plainElem Try.prog 3) w.heap.size (n + 1) (cntR (hR (xs.map (·.hold)) (k + 1)))) := by rw [HHS.out]; exact HO5
        clear HO5 HHS
        by_cases hh : x.hold.toList = []
        · have HE : Hid (difTo (xs.map (·.hold)) (k + 1) = true) := by show _ = _; rw [difTo, hD.out, HDA.out, hh]; rfl
          clear yl
          go_wp2_with fail
          go_roundw
          case rel => exact ⟨k + 1, n + 1, by omega, by go_num, by have := hn.out; show _ ≤ _; omega, HO6, HE, HB5⟩
          case measure => simp [intOf]; omega
        · have hhb : (x.hold.toList == []) = false := by simp [hh]
          rw [hhb, Bool.false_or] at HDA
          clear hhb
          by_cases h0 : c0 = 0
          · have HE : Hid (difTo (xs.map (·.hold)) (k + 1) = true) := by show _ = _; rw [difTo, hD.out, HDA.out, h0]; rfl
            have i1 : ¬ (1 : Int) < (c0 : Int) + 1 := by omega
            clear h0 HDA
            go_wp2_with fail
            go_roundw
            case rel => exact ⟨k + 1, n + 1, by omega, by go_num, by have := hn.out; show _ ≤ _; omega, HO6, HE, HB5⟩
            case measure => simp [intOf]; omega
          · have HE := Hid.intro (difTo_false (hs := xs.map (·.hold)) (k := k) (by rw [HDA.out]; simpa using h0) _ hlt)
            have i1 : (1 : Int) < (c0 : Int) + 1 := by omega
            clear h0 HDA
            go_wp2_with fail
            · go_ret
              exact ⟨ret_bool HE.out.symm, HB5⟩
            · rename_i h9
              exact absurd h9 (by simp [hh])
      · have hke : k = xs.length := by omega
        subst hke
        have HE := hD
        go_wp2_with fail
        go_ret
        exact ⟨ret_bool HE.out.symm, hB⟩

end Go.Proofs.Ytlegklkbmifdeaa
