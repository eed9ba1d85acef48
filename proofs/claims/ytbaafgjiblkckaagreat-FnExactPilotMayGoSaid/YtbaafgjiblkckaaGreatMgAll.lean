/-
  Several texts in one: Mg1, Pof, Spr, Lvg.
-/
import Derived.Test.YtbaafgjiblkckaaGreatUsAll
import Derived.Test.YtbaafgjiblkckaaGreatPlc
import Derived.Test.YtbaafgjiblkckaaGreatInAll
import Derived.Maps.OwnOps
import Derived.Deep.AppendLies
import Derived.Deep.RegionHeld3
import Derived.Lib.Walk
import Derived.Lib.SliceRun
import Derived.Test.YtbaafgjiblkckaaGreatAns
namespace Go.Proofs.YtbaafgjiblkckaaGreat
open Go.RowKit

theorem lastOf_get {ns : List ByteArray} {s : ByteArray} : ∀ {n k : Nat}, lastOf ns s n = some k → k < n ∧ ns[k]? = some s
  | 0, k, h => by simp [lastOf] at h
  | n + 1, k, h => by
    unfold lastOf at h
    by_cases e : ns[n]? = some s
    · rw [if_pos e] at h
      cases h
      exact ⟨by omega, e⟩
    · rw [if_neg e] at h
      have := lastOf_get h
      exact ⟨by omega, this.2⟩

theorem map_get {α : Type} {f : α → ByteArray} {xs : List α} {k : Nat} {y : α} (h : xs[k]? = some y) : (xs.map f)[k]? = some (f y) := by
  rw [List.getElem?_map, h]
  rfl

theorem get_map {α : Type} {f : α → ByteArray} {xs : List α} {k : Nat} {s : ByteArray} (h : (xs.map f)[k]? = some s) : ∃ y, xs[k]? = some y ∧ f y = s := by
  rw [List.getElem?_map] at h
  cases e : xs[k]? with
  | none => rw [e] at h; cases h
  | some y => rw [e] at h; cases h; exact ⟨y, rfl, rfl⟩

def cntTo (f : Nat → Bool) : Nat → Nat
  | 0 => 0
  | k + 1 => cntTo f k + (if f k then 1 else 0)

theorem cntTo_congr {f g : Nat → Bool} : ∀ n, (∀ k, k < n → f k = g k) → cntTo f n = cntTo g n
  | 0, _ => rfl
  | n + 1, h => by
    unfold cntTo
    rw [cntTo_congr n (fun k hk => h k (by omega)), h n (by omega)]

theorem cntTo_le (f : Nat → Bool) : ∀ n, cntTo f n ≤ n
  | 0 => Nat.le_refl _
  | n + 1 => by
    have := cntTo_le f n
    unfold cntTo
    split <;> omega

theorem cntTo_mono (f : Nat → Bool) : ∀ n k, k ≤ n → cntTo f k ≤ cntTo f n
  | 0, k, h => by rw [show k = 0 by omega]; exact Nat.le_refl _
  | n + 1, k, h => by
    by_cases e : k = n + 1
    · rw [e]; exact Nat.le_refl _
    · have := cntTo_mono f n k (by omega)
      rw [show cntTo f (n + 1) = cntTo f n + (if f n then 1 else 0) from rfl]
      omega

theorem cntTo_yes {f : Nat → Bool} {k : Nat} (h : f k = true) : cntTo f (k + 1) = cntTo f k + 1 := by
  unfold cntTo
  rw [if_pos h]
  cases k <;> rfl

theorem cntTo_no {f : Nat → Bool} {k : Nat} (h : f k = false) : cntTo f (k + 1) = cntTo f k := by
  unfold cntTo
  rw [if_neg (by rw [h]; decide)]
  cases k <;> rfl

/-- the names of the services and of the copies -/
abbrev svN (x : Flt) : List ByteArray := x.services.map (·.name)
abbrev cpN (x : Flt) : List ByteArray := x.copies.map (·.name)

/-- the place of the service of the copy at a place -/
def svcAt (x : Flt) (p : Nat) : Option Nat := match x.copies[p]? with
  | some c => lastOf (svN x) c.service x.services.length
  | none => none

/-- a copy that waits, of the service at a place -/
def waitF (x : Flt) (s i : Nat) : Bool := match x.copies[i]? with
  | some c => decide (c.at_ = ⟨#[]⟩) && decide (lastOf (svN x) c.service x.services.length = some s)
  | none => false

def spareOf (x : Flt) (s : Nat) : Int := match x.services[s]? with
  | some y => y.spare
  | none => 0

/-- what is left of the service at a place, behind the first k copies -/
def spareI (x : Flt) (s k : Nat) : Int := spareOf x s - (cntTo (waitF x s) k : Nat)

def goF (x : Flt) (pl : List Nat) (s i : Nat) : Bool := match pl[i]? with
  | some p => decide (svcAt x p = some s)
  | none => false

/-- the places of the first k names -/
def PlOk (ns gone : List ByteArray) (k : Nat) (pl : List Nat) : Prop := pl.length = k ∧ ∀ j g, j < k → gone[j]? = some g → ∃ p, pl[j]? = some p ∧ lastOf ns g ns.length = some p

def LeaveA (x : Flt) (pl : List Nat) (k : Nat) : Prop := (∀ j p, j < k → pl[j]? = some p → ∃ c, x.copies[p]? = some c ∧ ¬ c.at_ = ⟨#[]⟩) ∧ ∀ j q p, j + 1 < k → pl[j]? = some q → pl[j + 1]? = some p → q < p

def LeaveC (x : Flt) (pl : List Nat) : Prop := ∀ s, s < x.services.length → 0 < cntTo (goF x pl s) pl.length → ((cntTo (goF x pl s) pl.length : Nat) : Int) ≤ spareI x s x.copies.length

def goS (x : Flt) (gone : List ByteArray) (nm : ByteArray) (i : Nat) : Bool := match gone[i]? with
  | some g => match x.copies[(idxC x.copies g).toNat]? with
    | some c => decide (c.service = nm)
    | none => false
  | none => false

def waitS (x : Flt) (nm : ByteArray) (i : Nat) : Bool := match x.copies[i]? with
  | some c => decide (c.service = nm) && decide (c.at_ = ⟨#[]⟩)
  | none => false

def MayA (x : Flt) (gone : List ByteArray) (k : Nat) : Prop := (∀ j g, j < k → gone[j]? = some g → 0 ≤ idxC x.copies g ∧ ∃ c, x.copies[(idxC x.copies g).toNat]? = some c ∧ ¬ c.at_ = ⟨#[]⟩) ∧ ∀ j s t, j + 1 < k → gone[j]? = some s → gone[j + 1]? = some t → Op.bytesLess s.toList t.toList = true

def MayC (x : Flt) (gone : List ByteArray) (k : Nat) : Prop := ∀ s y, s < k → x.services[s]? = some y → 0 < cntTo (goS x gone y.name) gone.length → ((cntTo (goS x gone y.name) gone.length : Nat) : Int) ≤ y.spare - (cntTo (waitS x y.name) x.copies.length : Nat)

end Go.Proofs.YtbaafgjiblkckaaGreat

namespace Go.Proofs.YtbaafgjiblkckaaGreat
open Go.RowKit Go.WideMaps Go.Maps

theorem lit_inj {a b : Int} (h : (DataW.lit (Lit.int .i64 a) : DataW Unit) = .lit (.int .i64 b)) : a = b := by
  injection h with h
  injection h

/-- places as a row's cells -/
abbrev plV (pl : List Nat) : List Value := pl.map fun k => .int .i64 ((k : Nat) : Int)

theorem PlOk.step {ns gone : List ByteArray} {k : Nat} {pl : List Nat} {g : ByteArray} {q : Nat} (h : PlOk ns gone k pl) (hg : gone[k]? = some g) (hq : lastOf ns g ns.length = some q) : PlOk ns gone (k + 1) (pl ++ [q]) := by
  refine ⟨by simp [h.1], fun j g' hj hj' => ?_⟩
  by_cases e : j = k
  · subst e
    rw [hg] at hj'
    cases hj'
    exact ⟨q, by rw [List.getElem?_append_right (by rw [h.1]; omega), h.1]; simp, hq⟩
  · obtain ⟨p, h1, h2⟩ := h.2 j g' (by omega) hj'
    exact ⟨p, by rw [List.getElem?_append_left (by rw [h.1]; omega)]; exact h1, h2⟩

theorem oneI {w : World} {sb : Nat} {v : Value} (h : w.cell? ⟨sb, 0, none⟩ = some v) : ∀ j u, [v][j]? = some u → w.cell? ((⟨sb, 0, none⟩ : Addr).add j) = some u := by
  intro j u hu
  cases j with
  | zero => simp at hu; subst hu; simpa [Addr.add] using h
  | succ j => simp at hu

set_option maxHeartbeats 2000000 in
set_option maxRecDepth 100000 in
theorem placesOf_any (p m3 : Nat) (ns gone : List ByteArray) (ga : Option Addr) (gc lo : Nat) (w : World) (p6 : w.cell? ⟨p, 6, none⟩ = some (.map (some m3))) (o3 : w.ownsMap Tryz.prog 9 (plainElem Tryz.prog 3) m3 ns.length (placesTo ns ns.length)) (hg : SliceC StrC 1 lo w ga gone) (hsm : gone.length ≤ 1048576) :
    Calls Tryz.prog 42 #[.pointer (some ⟨p, 0, none⟩), .slice ga gone.length gc] w fun e w' => Below w.heap.size w w' ∧ ((e = .returned (.tuple #[.slice none 0 0, .bool false]) ∧ ∃ (j : Nat) (g : ByteArray), gone[j]? = some g ∧ lastOf ns g ns.length = none) ∨ ∃ pl v, e = .returned (.tuple #[v, .bool true]) ∧ PlOk ns gone gone.length pl ∧ w'.ownsRow w.heap.size 3 1 v pl.length (plV pl)) := by
  obtain ⟨i0, hi, hz0, hz1, hz2⟩ := info_parts info_int
  have HI : Hid (SliceC StrC 1 lo w ga gone) := hg
  have O3 := Hid.intro o3
  have hpl : p < w.heap.size := block_lt_of_cell p6
  have hm3 : m3 < w.heap.size := o3.lt
  have P6 := Hid.intro p6
  clear hg o3 p6
  go_enter Tryz.func42, Tryz.ntmps42
  go_wp2_with fail
  go_loopw [6, 13] (fun v i wr => ∃ (k : Nat) (pl : List Nat), k ≤ gone.length ∧ i = .int .i64 k ∧ Hid (PlOk ns gone k pl) ∧ Hid (wr.ownsRow w.heap.size 3 1 v pl.length (plV pl)) ∧ Hid (Below w.heap.size w wr)) (fun _ i _ => gone.length - (intOf i).toNat)
  case atStart => exact ⟨0, [], Nat.zero_le _, rfl, ⟨rfl, fun j g h => absurd h (Nat.not_lt_zero _)⟩, World.ownsRow_nil _ _ _ _, Below.refl _ _⟩
  case round =>
    obtain ⟨k, pl, hk, rfl, hP, hO, hB⟩ := hrel
    by_cases hlt : k < gone.length
    · obtain ⟨g, hgk⟩ : ∃ g, gone[k]? = some g := ⟨gone[k], List.getElem?_eq_getElem hlt⟩
      obtain ⟨b, o, rfl, _, _, hc⟩ := (HI.out.below StrC.holds hB.out (Nat.le_refl _)).at hgk
      obtain ⟨r0, hsz⟩ := hc
      simp only [Nat.mul_one, Nat.add_zero] at r0
      have hkey : keyOf Tryz.prog 9 (.string g) = some (kOf g) := keyOf_string_mk Tryz.underlying9 hsz
      have OA := Hid.intro (ownsMap_below O3.out hB.out hm3)
      have PA : wr.cell? ⟨p, 6, none⟩ = some (.map (some m3)) := (hB.out.cell (p := ⟨p, 6, none⟩) hpl).trans P6.out
      have HX : Hid (gone[k]? = some g) := hgk
      have HH : Hid (has (placesTo ns ns.length) (kOf g) = (lastOf ns g ns.length).isSome) := has_places _ _ _
      have HA : Hid ((placesTo ns ns.length).atKey (kOf g) (.lit (.int .i64 0)) = .lit (.int .i64 (((lastOf ns g ns.length).getD 0 : Nat) : Int))) := at_places _ _ _
      clear hgk hsz
      generalize placesTo ns ns.length = D at *
      cases hq : lastOf ns g ns.length with
      | none =>
        rw [hq] at HH
        have hh : has D (kOf g) = false := HH.out
        have HQ : Hid (lastOf ns g ns.length = none) := hq
        clear hq HH HA
        go_wp2_with (first | (at_lookup; refine wpList_lookup_own_ok_int _ rfl _ _ 86 rfl 9 3 .i64 law_str Tryz.underlying86 Tryz.underlying3 (zero_int _) m3 _ _ rfl OA.out _ _ rfl hkey ?_; intro c _ _; rw [hh]))
        go_ret2
        exact ⟨hB.out, Or.inl ⟨rfl, k, g, HX.out, HQ.out⟩⟩
      | some q =>
        rw [hq] at HH HA
        have hh : has D (kOf g) = true := HH.out
        have hh2 : D.atKey (kOf g) (.lit (.int .i64 0)) = .lit (.int .i64 ((q : Nat) : Int)) := HA.out
        have HQ : Hid (lastOf ns g ns.length = some q) := hq
        clear hq HH HA
        have hpk : pl.length = k := hP.out.1
        go_wp2_with (first | (at_lookup; refine wpList_lookup_own_ok_int _ rfl _ _ 86 rfl 9 3 .i64 law_str Tryz.underlying86 Tryz.underlying3 (zero_int _) m3 _ _ rfl OA.out _ _ rfl hkey ?_; intro c hcc _; obtain rfl := lit_inj (hcc.symm.trans hh2); rw [hh]) | (at_builtin; refine wpList_append_lies _ rfl (.tmp 28) (.tmp 30) 51 rfl w.heap.size 3 i0 _ 1 8 Tryz.underlying51 hi hz0 hz1 hz2 rfl (by decide) _ pl.length _ rfl (ownsRow_below hO.out ((Below.refl _ _).alloc (Nat.le_refl _) _)) ⟨wr.heap.size, 0, none⟩ 1 1 [.int .i64 ((q : Nat) : Int)] rfl rfl (oneI (by simp)) (by intro u hu; rw [List.mem_singleton.1 hu]; rfl) (by omega) (by unfold maxLen; omega) (by omega) (by have := hB.out.size; simp; omega) _ rfl ?_; intro g2 cap2 w2 hown hgrow hto hgl))
        go_roundw
        case rel =>
          have hB1 : Below w.heap.size w (wr.alloc (Obj.cells #[Value.int IntKind.i64 ((q : Nat) : Int)] 3)) := hB.out.alloc hB.out.size _
          refine ⟨k + 1, pl ++ [q], by omega, by go_num, hP.out.step HX.out HQ.out, ?_, hB1.grown hgrow hB1.size (fun i hi => (hO.out.lt i hi).1)⟩
          show World.ownsRow _ _ _ _ _ _ _
          simpa [plV, hpk] using hown
        case measure => simp [intOf]; omega
    · have hke : k = gone.length := by omega
      subst hke
      go_wp2_with fail
      go_ret2
      exact ⟨hB.out, Or.inr ⟨pl, _, rfl, hP.out, hO.out⟩⟩

end Go.Proofs.YtbaafgjiblkckaaGreat

namespace Go.Proofs.YtbaafgjiblkckaaGreat
open Go.RowKit Go.WideMaps Go.Maps

/-- numbers as a row's cells -/
abbrev inV (is : List Int) : List Value := is.map (Value.int .i64)

theorem inV_at {is : List Int} {j : Nat} {u : Value} (h : (inV is)[j]? = some u) : ∃ i, is[j]? = some i ∧ u = .int .i64 i := by
  rw [List.getElem?_map] at h
  cases e : is[j]? with
  | none => rw [e] at h; cases h
  | some i => rw [e] at h; cases h; exact ⟨i, rfl, rfl⟩

theorem inV_one (is : List Int) : ∀ u ∈ inV is, u.oneCell' = true := by
  intro u hu
  obtain ⟨i, _, rfl⟩ := List.mem_map.1 hu
  rfl

theorem inV_set (is : List Int) (k : Nat) (v : Int) : (inV is).set k (.int .i64 v) = inV (is.set k v) := by
  simp [inV, List.map_set]

theorem look_plain {ns : List ByteArray} {m n l : Nat} {w : World} {s : ByteArray} (h : w.ownsMap Tryz.prog 9 (plainElem Tryz.prog 3) m n (placesTo ns l)) (hs : s.size ≤ maxLen) :
    (Instr.lookup 86 (.map (some m)) (.string s) false).run Tryz.prog w = .ok (.int .i64 (((lastOf ns s l).getD 0 : Nat) : Int)) w := by
  have hkey : keyOf Tryz.prog 9 (.string s) = some (kOf s) := keyOf_string_mk Tryz.underlying9 hs
  obtain ⟨c, hrun, hc, _⟩ := h.lookup_int law_str Tryz.underlying86 Tryz.underlying3 (zero_int w) hkey
  rw [hrun, lit_inj (hc.symm.trans (at_places ns s l))]

set_option maxHeartbeats 1000000 in
set_option maxRecDepth 100000 in
theorem iclone_any (is : List Int) (g cap base : Nat) (w : World) (hin : w.ownsRow base 3 1 (.slice (some ⟨g, 0, none⟩) is.length cap) is.length (inV is)) (hsm : is.length ≤ 1048576) :
    Calls Tryz.prog 65 #[.slice (some ⟨g, 0, none⟩) is.length cap] w fun e w' => ∃ v, e = .returned v ∧ w'.ownsRow w.heap.size 3 1 v is.length (inV is) ∧ Below w.heap.size w w' := by
  obtain ⟨i0, hi, hz0, hz1, hz2⟩ := info_parts info_int
  have q22 : ∀ (w : World) (a : Option Addr) (n c n' c' : Nat), (binOp .eql 51 (.slice a n c) (.slice none n' c')).run Tryz.prog w = .ok (.bool a.isNone) w := fun w a n c n' c' => Lib.run_eql_slice_nil w _ _ a n c n' c' Tryz.underlying51
  have HS : Hid (∀ j u, (inV is)[j]? = some u → w.cell? ((⟨g, 0, none⟩ : Addr).add j) = some u) := by
    intro j u hj
    rw [Addr.add_lit, Nat.zero_add, hin.cellAt j (by have := lt_of_some hj; simpa using this)]
    exact hj
  clear hin
  go_enter Tryz.func65, Tryz.ntmps65
  go_wp2_with (at_builtin; refine wpList_append_own _ rfl _ _ 51 rfl w.heap.size 3 i0 _ 1 8 Tryz.underlying51 hi hz0 hz1 hz2 rfl (by decide) _ _ _ rfl (World.ownsRow_made w #[] 0 (Nat.le_refl _) (Nat.zero_le _) rfl) ⟨g, 0, none⟩ is.length _ (inV is) rfl (by simp) (fun j u hj => Lib.cell?_alloc_some _ (HS.out j u hj)) (inV_one is) (by unfold maxLen; omega) (by omega) (by simp) ?_; intro v' w1 hown hgrow hnil)
  go_ret
  exact ⟨v', rfl, by simpa using hown, ((Below.refl _ w).alloc (Nat.le_refl _) _).grown hgrow (by simp) (by intro k hk; cases hk; exact Nat.le_refl _)⟩

/-- the row of what is left: of each service, behind the first k copies -/
def SpRow (x : Flt) (k : Nat) (is : List Int) : Prop := is.length = x.services.length ∧ ∀ s, s < x.services.length → is[s]? = some (spareI x s k)

set_option maxHeartbeats 2000000 in
set_option maxRecDepth 100000 in
theorem spare_any (p m2 : Nat) (x : Flt) (a2 : Option Addr) (c2 : Nat) (a3 : Option Addr) (c3 lo : Nat) (w : World) (p2 : w.cell? ⟨p, 2, none⟩ = some (.slice a2 x.services.length c2)) (p3 : w.cell? ⟨p, 3, none⟩ = some (.slice a3 x.copies.length c3)) (p5 : w.cell? ⟨p, 5, none⟩ = some (.map (some m2))) (o2 : w.ownsMap Tryz.prog 9 (plainElem Tryz.prog 3) m2 x.services.length (placesTo (svN x) x.services.length)) (n2 : SliceC SvcC 2 lo w a2 x.services) (n3 : SliceC CpyC 12 lo w a3 x.copies)
    (l2 : x.services.length ≤ 30) (l3 : x.copies.length ≤ 60) (hsp : ∀ (k : Nat) (y : Svc), x.services[k]? = some y → 0 ≤ y.spare ∧ y.spare ≤ 60) (hsv : ∀ (k : Nat) (c : Cpy), x.copies[k]? = some c → ∃ s, lastOf (svN x) c.service x.services.length = some s) :
    Calls Tryz.prog 44 #[.pointer (some ⟨p, 0, none⟩)] w fun e w' => ∃ g is, e = .returned (.slice (some ⟨g, 0, none⟩) is.length is.length) ∧ SpRow x x.copies.length is ∧ w'.ownsRow w.heap.size 3 1 (.slice (some ⟨g, 0, none⟩) is.length is.length) is.length (inV is) ∧ Below w.heap.size w w' := by
  obtain ⟨i0, hi, hz0, hz1, hz2⟩ := info_parts info_int
  have N2 : Hid (SliceC SvcC 2 lo w a2 x.services) := n2
  have N3 : Hid (SliceC CpyC 12 lo w a3 x.copies) := n3
  have O2 := Hid.intro o2
  have hpl : p < w.heap.size := block_lt_of_cell p2
  have hm2 : m2 < w.heap.size := o2.lt
  have P5 := Hid.intro p5
  have P3 := Hid.intro p3
  have HSP := Hid.intro hsp
  have HSV := Hid.intro hsv
  clear n2 n3 o2 p5 hsp hsv
  go_enter Tryz.func44, Tryz.ntmps44
  go_wp2_with (at_make; refine wpList_make_full _ rfl _ _ 51 rfl w.heap.size 3 i0 _ 1 Tryz.underlying51 hi hz0 hz1 .i64 .i64 _ _ x.services.length rfl rfl rfl rfl (by rw [hz2]; omega) (by unfold maxLen; omega) (Nat.le_refl _) ?_; intro w1 hown hgrow; have hb1 : Below w.heap.size w w1 := (Below.refl _ _).grown hgrow (Nat.le_refl _) (fun k h => by cases h); have p2' : w1.cell? ⟨p, 2, none⟩ = some (.slice a2 x.services.length c2) := (hb1.cell (p := ⟨p, 2, none⟩) hpl).trans p2)
  have HB1 : Hid (Below w.heap.size w w1) := hb1
  generalize hX : (madeCells _ (x.services.length * 1)).toList = xs0 at hown
  clear hX hgrow hi hz0 hz1 hz2 hb1 p2'
  go_loopw [21] (fun i wr => ∃ (k : Nat) (cs : List Value), k ≤ x.services.length ∧ i = .int .i64 k ∧ Hid (wr.ownsRow w.heap.size 3 1 (.slice (some ⟨w.heap.size, 0, none⟩) x.services.length x.services.length) x.services.length cs) ∧ Hid (∀ s, s < k → cs[s]? = some (.int .i64 (spareOf x s))) ∧ Hid (Below w.heap.size w wr)) (fun i _ => x.services.length - (intOf i).toNat)
  case atStart => exact ⟨0, xs0, Nat.zero_le _, rfl, hown, fun s h => absurd h (Nat.not_lt_zero _), HB1⟩
  case round =>
    clear hown HB1
    obtain ⟨k, cs, hk, rfl, hO, hF, hB⟩ := hrel
    by_cases hlt : k < x.services.length
    · obtain ⟨y, hy⟩ : ∃ y, x.services[k]? = some y := ⟨x.services[k], List.getElem?_eq_getElem hlt⟩
      obtain ⟨b, o, rfl, _, _, hc⟩ := (N2.out.below SvcC.holds hB.out (Nat.le_refl _)).at hy
      obtain ⟨q0, q1, _⟩ := hc
      simp only [Nat.add_zero] at q0
      have HX : Hid (spareOf x k = y.spare) := by unfold spareOf; rw [hy]; rfl
      have hxl : cs.length = x.services.length * 1 := hO.out.1
      obtain ⟨v0, c0⟩ : ∃ v, wr.cell? ⟨w.heap.size, k, none⟩ = some v := ⟨_, (hO.out.cellAt k (by omega)).trans (List.getElem?_eq_getElem (by omega))⟩
      have f0 := hO.out.frozenAt k
      have hw0 : w.heap.size < wr.heap.size := (hO.out.lt _ rfl).2
      have c1 : (wr.alloc (Obj.cells #[.string y.name, .int .i64 y.spare] 67)).cell? ⟨w.heap.size, k, none⟩ = some v0 := Lib.cell?_alloc_some _ c0
      have hba : Below wr.heap.size wr (wr.alloc (Obj.cells #[.string y.name, .int .i64 y.spare] 67)) := (Below.refl _ wr).alloc (Nat.le_refl _) _
      have f1 := (hba.frozen (p := ⟨w.heap.size, k, none⟩) hw0).trans f0
      have HBA := Hid.intro hba
      clear hy hba
      go_wp2_with fail
      go_roundw
      case rel =>
        have hO1 := (hO.out.stored k (.int .i64 y.spare)).1
        have hB1 : Below w.heap.size w (wr.setCell ⟨w.heap.size, k, none⟩ (.int .i64 y.spare)) := hB.out.setCell (Nat.le_refl _) _
        refine ⟨k + 1, _, by omega, by go_num, ownsRow_below hO1 ((Below.refl _ _).alloc (Nat.le_refl _) _), fun s hs => ?_, hB1.alloc hB1.size _⟩
        by_cases e : s = k
        · subst e
          rw [List.getElem?_set_self (by omega), HX.out]
        · rw [List.getElem?_set_ne (by omega)]
          exact hF.out s (by omega)
      case measure => simp [intOf]; omega
    · have hke : k = x.services.length := by omega
      subst hke
      have HR : Hid (∃ is, SpRow x 0 is ∧ cs = inV is) := by
        refine ⟨(List.range x.services.length).map (spareOf x), ⟨by simp, fun s hs => ?_⟩, ?_⟩
        · simp [hs, spareI, cntTo]
        · apply List.ext_getElem?
          intro j
          by_cases hj : j < x.services.length
          · rw [hF.out j hj]
            simp [inV, hj]
          · have h1 := hO.out.1
            rw [List.getElem?_eq_none (by omega), List.getElem?_eq_none (by simp; omega)]
      obtain ⟨is0, hS0, rfl⟩ := HR.out
      have HS0 := Hid.intro hS0
      have PA : wr.cell? ⟨p, 3, none⟩ = some (.slice a3 x.copies.length c3) := (hB.out.cell (p := ⟨p, 3, none⟩) hpl).trans P3.out
      clear hS0 HR hF
      go_wp2_with fail
      go_loopw [38] (fun i wr => ∃ (k : Nat) (is : List Int), k ≤ x.copies.length ∧ i = .int .i64 k ∧ Hid (SpRow x k is) ∧ Hid (wr.ownsRow w.heap.size 3 1 (.slice (some ⟨w.heap.size, 0, none⟩) x.services.length x.services.length) x.services.length (inV is)) ∧ Hid (Below w.heap.size w wr)) (fun i _ => x.copies.length - (intOf i).toNat)
      case atStart => exact ⟨0, is0, Nat.zero_le _, rfl, HS0, hO, hB⟩
      case round =>
        clear HS0 hO hB PA
        obtain ⟨k, is, hk, rfl, hS, hO, hB⟩ := hrel
        by_cases hlt : k < x.copies.length
        · obtain ⟨y, hy⟩ : ∃ y, x.copies[k]? = some y := ⟨x.copies[k], List.getElem?_eq_getElem hlt⟩
          obtain ⟨b, o, rfl, _, _, hc⟩ := (N3.out.below CpyC.holds hB.out (Nat.le_refl _)).at hy
          obtain ⟨a7, c7, q0, q1, q2, q3, q4, q5, q6, q7, q8, q9, q10, q11, z0, z1, z6, z9, z10, z11, z7⟩ := hc
          simp only [Nat.add_zero] at q0 q1 q2 q3 q4 q5 q6 q7 q8 q9 q10 q11
          have HRA : Hid (wr.rangeAt b (o + k * 12) [.string y.name, .string y.service, .int .i64 y.rank, .int .i64 y.born, .int .i64 y.room, .int .i64 y.hold, .string y.select, .slice a7 y.likes.length c7, .int .i64 y.apart, .string y.near, .string y.fixed, .string y.at_]) := range_cons q0 (range_cons q1 (range_cons q2 (range_cons q3 (range_cons q4 (range_cons q5 (range_cons q6 (range_cons q7 (range_cons q8 (range_cons q9 (range_cons q10 (range_cons q11 (range_nil _ _ _))))))))))))
          have HX : Hid (x.copies[k]? = some y) := hy
          have Z1 : Hid (y.service.size ≤ maxLen) := z1
          clear hy q0 q1 q2 q3 q4 q5 q6 q7 q8 q9 q10 q11 z0 z1 z6 z7 z9 z10 z11
          go_upto_region 10 with (first | (refine wpList_load_mid rfl 72 _ rfl b (o + k * 12) (by first | rfl | (simp [go_sem]; done)) [.string y.name, .string y.service, .int .i64 y.rank, .int .i64 y.born, .int .i64 y.room, .int .i64 y.hold, .string y.select, .slice a7 y.likes.length c7, .int .i64 y.apart, .string y.near, .string y.fixed, .string y.at_] _ HRA.out Tryz.underlying72 rfl isz_Cpy ?_))
          have hbx : Below wr.heap.size wr (wr.alloc (Obj.cells #[.string y.name, .string y.service, .int .i64 y.rank, .int .i64 y.born, .int .i64 y.room, .int .i64 y.hold, .string y.select, .slice a7 y.likes.length c7, .int .i64 y.apart, .string y.near, .string y.fixed, .string y.at_] 72)) := (Below.refl _ wr).alloc (Nat.le_refl _) _
          have g1 : (wr.alloc (Obj.cells #[.string y.name, .string y.service, .int .i64 y.rank, .int .i64 y.born, .int .i64 y.room, .int .i64 y.hold, .string y.select, .slice a7 y.likes.length c7, .int .i64 y.apart, .string y.near, .string y.fixed, .string y.at_] 72)).cell? ⟨wr.heap.size, 1, none⟩ = some (.string y.service) := by simp
          have g11 : (wr.alloc (Obj.cells #[.string y.name, .string y.service, .int .i64 y.rank, .int .i64 y.born, .int .i64 y.room, .int .i64 y.hold, .string y.select, .slice a7 y.likes.length c7, .int .i64 y.apart, .string y.near, .string y.fixed, .string y.at_] 72)).cell? ⟨wr.heap.size, 11, none⟩ = some (.string y.at_) := by simp
          have HB4 : Hid (Below w.heap.size w (wr.alloc (Obj.cells #[.string y.name, .string y.service, .int .i64 y.rank, .int .i64 y.born, .int .i64 y.room, .int .i64 y.hold, .string y.select, .slice a7 y.likes.length c7, .int .i64 y.apart, .string y.near, .string y.fixed, .string y.at_] 72))) := hB.out.trans (hbx.mono hB.out.size)
          have HO4 : Hid (World.ownsRow (wr.alloc (Obj.cells #[.string y.name, .string y.service, .int .i64 y.rank, .int .i64 y.born, .int .i64 y.room, .int .i64 y.hold, .string y.select, .slice a7 y.likes.length c7, .int .i64 y.apart, .string y.near, .string y.fixed, .string y.at_] 72)) w.heap.size 3 1 (.slice (some ⟨w.heap.size, 0, none⟩) x.services.length x.services.length) x.services.length (inV is)) := ownsRow_below hO.out hbx
          clear HRA hbx hO hB
          generalize (wr.alloc (Obj.cells #[.string y.name, .string y.service, .int .i64 y.rank, .int .i64 y.born, .int .i64 y.room, .int .i64 y.hold, .string y.select, .slice a7 y.likes.length c7, .int .i64 y.apart, .string y.near, .string y.fixed, .string y.at_] 72)) = w4 at *
          by_cases hat : y.at_ = ⟨#[]⟩
          · obtain ⟨s, hs⟩ := HSV.out k y HX.out
            have HW : Hid (waitF x s k = true) := by show _ = _; unfold waitF; rw [HX.out]; simp [hat, hs]
            have HW2 : Hid (∀ t, t ≠ s → waitF x t k = false) := by
              intro t ht
              unfold waitF
              rw [HX.out]
              simp only [hs, Option.some.injEq, Bool.and_eq_false_iff, decide_eq_false_iff_not]
              exact Or.inr (fun e => ht e.symm)
            have hsl : s < x.services.length := (lastOf_get hs).1
            obtain ⟨iv, hiv⟩ : ∃ iv, is[s]? = some iv := ⟨_, hS.out.2 s hsl⟩
            have hie : iv = spareI x s k := by have := hS.out.2 s hsl; rw [hiv] at this; injection this
            have hbd : -60 ≤ iv ∧ iv ≤ 60 := by
              have h1 := cntTo_le (waitF x s) k
              have h2 := HSP.out s _ (List.getElem?_eq_getElem hsl)
              rw [hie]
              unfold spareI spareOf
              rw [List.getElem?_eq_getElem hsl]
              simp only
              omega
            have hil : is.length = x.services.length := hS.out.1
            have r0 : w4.cell? ⟨w.heap.size, s, none⟩ = some (.int .i64 iv) := by
              rw [HO4.out.cellAt s (by omega), List.getElem?_map, hiv]
              rfl
            have f0 := HO4.out.frozenAt s
            have PB : w4.cell? ⟨p, 5, none⟩ = some (.map (some m2)) := (HB4.out.cell (p := ⟨p, 5, none⟩) hpl).trans P5.out
            have yl := look_plain (s := y.service) (ownsMap_below O2.out HB4.out hm2).drew Z1.out
            rw [hs] at yl
            simp only [Option.getD_some] at yl
            have hte := empty_toList hat
            have hte2 : y.at_.toList.isEmpty = true := by rw [hte]; rfl
            obtain ⟨hb1, hb2⟩ := hbd
            have HIE := Hid.intro hie
            have HIV := Hid.intro hiv
            clear hs hat hie hiv
            go_wp2_with fail
            go_region
            go_wp2_with fail
            go_roundw
            case rel =>
              have hO1 := (HO4.out.stored s (.int .i64 (iv - 1))).1
              rw [inV_set] at hO1
              refine ⟨k + 1, is.set s (iv - 1), by omega, by go_num, ⟨by rw [List.length_set]; exact hil, fun t ht => ?_⟩, ownsRow_below hO1 ((Below.refl _ _).drew), (HB4.out.setCell (Nat.le_refl _) _).drew⟩
              by_cases e : t = s
              · subst e
                rw [List.getElem?_set_self (by omega), HIE.out]
                unfold spareI
                rw [cntTo_yes HW.out]
                congr 1
                omega
              · rw [List.getElem?_set_ne (by omega), hS.out.2 t ht]
                unfold spareI
                rw [cntTo_no (HW2.out t e)]
            case measure => simp [intOf]; omega
          · have HW : Hid (∀ t, waitF x t k = false) := by
              intro t
              unfold waitF
              rw [HX.out]
              simp [hat]
            have hte := nonempty_toList hat
            have hte2 : y.at_.toList.isEmpty = false := by
              cases h : y.at_.toList with
              | nil => exact absurd h hte
              | cons a l => rfl
            clear hat
            go_wp2_with fail
            go_roundw
            case rel =>
              refine ⟨k + 1, is, by omega, by go_num, ⟨hS.out.1, fun s hs => ?_⟩, HO4, HB4⟩
              rw [hS.out.2 s hs]
              unfold spareI
              rw [cntTo_no (HW.out s)]
            case measure => simp [intOf]; omega
        · have hke : k = x.copies.length := by omega
          subst hke
          go_wp2_with fail
          go_ret
          have hil := hS.out.1
          exact ⟨w.heap.size, is, by rw [hil]; rfl, hS.out, by rw [hil]; exact hO.out, hB.out⟩

end Go.Proofs.YtbaafgjiblkckaaGreat

namespace Go.Proofs.YtbaafgjiblkckaaGreat
open Go.RowKit Go.WideMaps Go.Maps

theorem row_slice {w : World} {base : Nat} {e : TypeId} {v : Value} {is : List Int} (h : w.ownsRow base e 1 v is.length (inV is)) (hm : is.length ≤ maxLen) : ∃ a c, v = .slice a is.length c ∧ SliceC IntC 1 base w a is := by
  rcases h.2 with ⟨hv, h0⟩ | ⟨g, cap, cur, hv, hb, hg, _⟩
  · have : is = [] := List.length_eq_zero_iff.1 h0
    subst this
    exact ⟨none, 0, hv, SliceC.nil⟩
  · subst hv
    refine ⟨_, cap, rfl, hm, .inr ⟨g, 0, rfl, hb, (Array.getElem?_eq_some_iff.1 hg).1, fun j x hj => ?_⟩⟩
    have hlt := lt_of_some hj
    have := h.cellAt (j * 1 + 0) (by simp; omega)
    simp only [Nat.mul_one, Nat.add_zero, List.getElem?_map, hj, Option.map_some] at this
    show _ = _
    simpa using this

/-- places as numbers -/
abbrev plI (pl : List Nat) : List Int := pl.map fun k => ((k : Nat) : Int)

theorem plI_at {pl : List Nat} {j q : Nat} (h : pl[j]? = some q) : (plI pl)[j]? = some (q : Int) := by
  rw [List.getElem?_map, h]
  rfl

theorem plV_in (pl : List Nat) : plV pl = inV (plI pl) := by simp [plV, inV, plI]

theorem goF_at {x : Flt} {pl : List Nat} {k q s : Nat} {c : Cpy} (hq : pl[k]? = some q) (hc : x.copies[q]? = some c) (hs : lastOf (svN x) c.service x.services.length = some s) : goF x pl s k = true ∧ ∀ t, t ≠ s → goF x pl t k = false := by
  unfold goF svcAt
  rw [hq]
  simp only [hc, hs]
  exact ⟨by simp, fun t ht => by simp; exact fun e => ht e.symm⟩

/-- the row of what is left, behind the first k that go -/
def LfRow (x : Flt) (pl : List Nat) (k : Nat) (is : List Int) : Prop := is.length = x.services.length ∧ (∀ s, s < x.services.length → is[s]? = some (spareI x s x.copies.length - (cntTo (goF x pl s) k : Nat))) ∧ ∀ s, s < x.services.length → 0 < cntTo (goF x pl s) k → ((cntTo (goF x pl s) k : Nat) : Int) ≤ spareI x s x.copies.length

set_option maxHeartbeats 2000000 in
set_option maxRecDepth 100000 in
theorem spares_any (p m2 : Nat) (x : Flt) (a3 : Option Addr) (c3 lo lo2 : Nat) (pl : List Nat) (pa : Option Addr) (pc : Nat) (is : List Int) (g base : Nat) (w : World) (p3 : w.cell? ⟨p, 3, none⟩ = some (.slice a3 x.copies.length c3)) (p5 : w.cell? ⟨p, 5, none⟩ = some (.map (some m2))) (o2 : w.ownsMap Tryz.prog 9 (plainElem Tryz.prog 3) m2 x.services.length (placesTo (svN x) x.services.length)) (n3 : SliceC CpyC 12 lo w a3 x.copies)
    (l2 : x.services.length ≤ 30) (l3 : x.copies.length ≤ 60) (hsp : ∀ (k : Nat) (y : Svc), x.services[k]? = some y → 0 ≤ y.spare ∧ y.spare ≤ 60) (hsv : ∀ (k : Nat) (c : Cpy), x.copies[k]? = some c → ∃ s, lastOf (svN x) c.service x.services.length = some s)
    (hpl : SliceC IntC 1 lo2 w pa (plI pl)) (hsm : pl.length ≤ 1048576) (hin : ∀ (j q : Nat), pl[j]? = some q → q < x.copies.length) (hS : SpRow x x.copies.length is) (hI : w.ownsRow base 3 1 (.slice (some ⟨g, 0, none⟩) is.length is.length) is.length (inV is)) :
    Calls Tryz.prog 43 #[.pointer (some ⟨p, 0, none⟩), .slice pa pl.length pc, .slice (some ⟨g, 0, none⟩) is.length is.length] w fun e w' => ∃ b, e = .returned (.bool b) ∧ (b = true ↔ LeaveC x pl) ∧ Below w.heap.size w w' := by
  have N3 : Hid (SliceC CpyC 12 lo w a3 x.copies) := n3
  have O2 := Hid.intro o2
  have hpp : p < w.heap.size := block_lt_of_cell p3
  have hm2 : m2 < w.heap.size := o2.lt
  have P5 := Hid.intro p5
  have P3 := Hid.intro p3
  have HSP := Hid.intro hsp
  have HSV := Hid.intro hsv
  have HPL := Hid.intro hpl
  have HIN := Hid.intro hin
  have HS := Hid.intro hS
  have HI := Hid.intro hI
  have HIL : Hid (is.length = x.services.length) := hS.1
  clear n3 o2 p3 p5 hsp hsv hpl hin hS hI
  go_enter Tryz.func43, Tryz.ntmps43
  go_wp2_with fail
  refine (iclone_any is g _ base _ HI.out (by have := HIL.out; omega)).mono ?_
  rintro e w1 ⟨v, rfl, hown, hb1⟩
  have HB1 : Hid (Below w.heap.size w w1) := hb1
  have HR : Hid (∃ h cap, v = .slice (some ⟨h, 0, none⟩) is.length cap ∧ w.heap.size ≤ h) ∨ is.length = 0 := by
    by_cases h0 : is.length = 0
    · exact Or.inr h0
    · obtain ⟨h, cap, e, hb, _⟩ := World.ownsRow.form hown (by omega)
      exact Or.inl ⟨h, cap, e, hb⟩
  have HO1 := Hid.intro hown
  clear hown hb1 HI
  go_wp2_with fail
  go_loopw [15] (fun i wr => ∃ (k : Nat) (js : List Int), k ≤ pl.length ∧ i = .int .i64 k ∧ Hid (LfRow x pl k js) ∧ Hid (wr.ownsRow w.heap.size 3 1 v is.length (inV js)) ∧ Hid (Below w.heap.size w wr)) (fun i _ => pl.length - (intOf i).toNat)
  case atStart =>
    refine ⟨0, is, Nat.zero_le _, rfl, ⟨HIL.out, fun s hs => ?_, fun s _ h => absurd h (by simp [cntTo])⟩, HO1, HB1⟩
    rw [HS.out.2 s hs]
    simp [cntTo]
  case round =>
    clear HO1 HB1
    obtain ⟨k, js, hk, rfl, hF, hO, hB⟩ := hrel
    by_cases hlt : k < pl.length
    · obtain ⟨q, hq⟩ : ∃ q, pl[k]? = some q := ⟨pl[k], List.getElem?_eq_getElem hlt⟩
      have hqc := HIN.out k q hq
      obtain ⟨y, hy⟩ : ∃ y, x.copies[q]? = some y := ⟨x.copies[q], List.getElem?_eq_getElem hqc⟩
      obtain ⟨s, hs⟩ := HSV.out q y hy
      have hsl : s < x.services.length := (lastOf_get hs).1
      have hjl : js.length = x.services.length := hF.out.1
      obtain ⟨h, cap, rfl, hbh⟩ := (HR.resolve_right (by have := HIL.out; omega)).out
      obtain ⟨b', o', rfl, _, _, hcp⟩ := (HPL.out.below IntC.holds hB.out (Nat.le_refl _)).at (plI_at hq)
      have t0 : _ = _ := hcp
      simp only [Nat.mul_one, Nat.add_zero] at t0
      obtain ⟨b, o, rfl, _, _, hc⟩ := (N3.out.below CpyC.holds hB.out (Nat.le_refl _)).at hy
      obtain ⟨a7, c7, q0, q1, q2, q3, q4, q5, q6, q7, q8, q9, q10, q11, z0, z1, z6, z9, z10, z11, z7⟩ := hc
      have HG := Hid.intro (goF_at hq hy hs)
      have PA : wr.cell? ⟨p, 3, none⟩ = some (.slice (some ⟨b, o, none⟩) x.copies.length c3) := (hB.out.cell (p := ⟨p, 3, none⟩) hpp).trans P3.out
      have PB : wr.cell? ⟨p, 5, none⟩ = some (.map (some m2)) := (hB.out.cell (p := ⟨p, 5, none⟩) hpp).trans P5.out
      have yl := look_plain (s := y.service) (ownsMap_below O2.out hB.out hm2).drew z1
      rw [hs] at yl
      simp only [Option.getD_some] at yl
      obtain ⟨iv, hiv⟩ : ∃ iv, js[s]? = some iv := ⟨_, hF.out.2.1 s hsl⟩
      have hie : iv = spareI x s x.copies.length - (cntTo (goF x pl s) k : Nat) := by have := hF.out.2.1 s hsl; rw [hiv] at this; injection this
      have hbd : -1048700 ≤ iv ∧ iv ≤ 60 := by
        have h1 := cntTo_le (waitF x s) x.copies.length
        have h3 := cntTo_le (goF x pl s) k
        have h2 := HSP.out s _ (List.getElem?_eq_getElem hsl)
        rw [hie]
        unfold spareI spareOf
        rw [List.getElem?_eq_getElem hsl]
        simp only
        omega
      obtain ⟨hb1, hb2⟩ := hbd
      have hsl2 : s < is.length := by have := HIL.out; omega
      have r0 : wr.cell? ⟨h, s, none⟩ = some (.int .i64 iv) := by
        rw [hO.out.cellAt s (by omega), List.getElem?_map, hiv]
        rfl
      have f0 : wr.frozen? ⟨h, s, none⟩ = false := hO.out.frozenAt s
      have HST := Hid.intro (hO.out.stored s (.int .i64 (iv - 1))).1
      have r1 : (wr.setCell ⟨h, s, none⟩ (.int .i64 (iv - 1))).cell? ⟨h, s, none⟩ = some (.int .i64 (iv - 1)) := by
        rw [HST.out.cellAt s (by omega), List.getElem?_set_self (by have := hO.out.1; omega)]
      have HIE := Hid.intro hie
      have HIV := Hid.intro hiv
      have hw0 : h < wr.heap.size := (hO.out.lt _ rfl).2
      clear hq hy hs hie hiv hcp q0 q2 q3 q4 q5 q6 q7 q8 q9 q10 q11 z0 z1 z6 z9 z10 z11 z7
      by_cases hneg : iv - 1 < 0
      · have HC : Hid (¬ LeaveC x pl) := by
          intro hl
          have h1 := hl s hsl
          have h2 := cntTo_mono (goF x pl s) pl.length (k + 1) (by omega)
          rw [cntTo_yes HG.out.1] at h2
          have h3 := HIE.out
          have h4 := h1 (by omega)
          omega
        go_wp2_with fail
        go_region
        go_wp2_with fail
        go_ret
        exact ⟨false, rfl, ⟨(fun h => by cases h), (fun h => absurd h HC.out)⟩, (hB.out.setCell hbh _).drew⟩
      · go_wp2_with fail
        go_region
        go_wp2_with fail
        go_roundw
        case rel =>
          have h1 := HST.out
          rw [inV_set] at h1
          refine ⟨k + 1, js.set s (iv - 1), by omega, by go_num, ⟨by rw [List.length_set]; exact hjl, fun t ht => ?_, fun t ht h0 => ?_⟩, ownsRow_below h1 ((Below.refl _ _).drew), (hB.out.setCell hbh _).drew⟩
          · by_cases e : t = s
            · subst e
              rw [List.getElem?_set_self (by omega), HIE.out, cntTo_yes HG.out.1]
              congr 1
              omega
            · rw [List.getElem?_set_ne (by omega), hF.out.2.1 t ht, cntTo_no (HG.out.2 t e)]
          · by_cases e : t = s
            · subst e
              rw [cntTo_yes HG.out.1]
              have := HIE.out
              omega
            · rw [cntTo_no (HG.out.2 t e)] at h0 ⊢
              exact hF.out.2.2 t ht h0
        case measure => simp [intOf]; omega
    · have hke : k = pl.length := by omega
      subst hke
      go_wp2_with fail
      go_ret
      exact ⟨true, rfl, ⟨fun _ s hs h0 => hF.out.2.2 s hs h0, fun _ => rfl⟩, hB.out⟩

end Go.Proofs.YtbaafgjiblkckaaGreat
