/-
  Several texts in one: Idc, Ins, Mg1, Pof, Blk, Bls.
-/
import Derived.Test.YtggbhggnemlpnaaGreatUsd
import Derived.Test.YtggbhggnemlpnaaGreatShp
import Derived.Test.YtggbhggnemlpnaaGreatPlc
import Derived.Maps.OwnOps
import Derived.Deep.AppendLies
import Derived.RangeFuncRecord
namespace Go.Proofs.YtggbhggnemlpnaaGreat
open Go.RowKit

/-- the place of the first copy with a name -/
def idxC (bs : List Cpy) (s : ByteArray) : Int := match bs.findIdx? (fun b => decide (b.name = s)) with
  | some k => k
  | none => -1

theorem idxC_at {bs : List Cpy} {s : ByteArray} {k : Nat} {b : Cpy} (hk : bs[k]? = some b) (h : b.name = s) (ho : ∀ j b, j < k → bs[j]? = some b → b.name ≠ s) : idxC bs s = k := by
  have : bs.findIdx? (fun b => decide (b.name = s)) = some k := by
    rw [List.findIdx?_eq_some_iff_getElem]
    have hlt := lt_of_some hk
    rw [List.getElem?_eq_getElem hlt] at hk
    injection hk with hk
    refine ⟨hlt, by simp [hk, h], fun j hj => ?_⟩
    have := ho j bs[j] hj (List.getElem?_eq_getElem (by omega))
    simpa using this
  simp [idxC, this]

theorem idxC_none {bs : List Cpy} {s : ByteArray} (ho : ∀ j b, j < bs.length → bs[j]? = some b → b.name ≠ s) : idxC bs s = -1 := by
  have : bs.findIdx? (fun b => decide (b.name = s)) = none := by
    rw [List.findIdx?_eq_none_iff]
    intro b hb
    obtain ⟨j, hj⟩ := List.getElem?_of_mem hb
    simpa using ho j b (lt_of_some hj) hj
  simp [idxC, this]

set_option maxHeartbeats 1000000 in
set_option maxRecDepth 100000 in
theorem l2Copy_any (x : Flt) (a1 : Option Addr) (c1 : Nat) (a2 : Option Addr) (c2 : Nat) (a3 : Option Addr) (c3 : Nat) (lo : Nat) (s : ByteArray) (w : World) (n3 : SliceC CpyC 12 lo w a3 x.copies) (hl : x.copies.length ≤ 1048576) :
    Calls Tryz.prog 40 #[.agg #[.bool x.pack, .slice a1 x.berths.length c1, .slice a2 x.services.length c2, .slice a3 x.copies.length c3], .string s] w fun e w' => e = .returned (.int .i64 (idxC x.copies s)) ∧ Below w.heap.size w w' := by
  have HI : Hid (SliceC CpyC 12 lo w a3 x.copies) := n3
  clear n3
  generalize hbs : x.copies = bs at *
  clear hbs
  go_enter Tryz.func40, Tryz.ntmps40
  go_wp2_with fail
  go_loopw [5] (fun i wr => ∃ k : Nat, k ≤ bs.length ∧ i = .int .i64 k ∧ wr.cell? ⟨w.heap.size, 3, none⟩ = some (.slice a3 bs.length c3) ∧ Hid (∀ j b, j < k → bs[j]? = some b → b.name ≠ s) ∧ Below w.heap.size w wr) (fun i _ => bs.length - (intOf i).toNat)
  case atStart => exact ⟨0, Nat.zero_le _, rfl, by simp, fun j b h => by omega, by go_grown⟩
  case round =>
    obtain ⟨k, hk, rfl, hcell, ho, hbel⟩ := hrel
    by_cases hlt : k < bs.length
    · obtain ⟨x, hx⟩ : ∃ x, bs[k]? = some x := ⟨bs[k], List.getElem?_eq_getElem hlt⟩
      obtain ⟨b, o, rfl, _, _, hc⟩ := (HI.out.below CpyC.holds hbel (Nat.le_refl _)).at hx
      obtain ⟨a9, c9, q0, q1, q2, q3, q4, q5, q6, q7, q8, q9, q10, q11, z0, z1, z2, z3, z4, z5, n9⟩ := hc
      simp only [Nat.add_zero] at q0
      have HX : Hid (bs[k]? = some x) := hx
      clear hx q1 q2 q3 q4 q5 q6 q7 q8 q9 q10 q11 z0 z1 z2 z3 z4 z5 n9
      by_cases h : x.name = s
      · have HZ : Hid (idxC bs s = k) := idxC_at HX.out h ho.out
        have ht := bts_eq h
        clear h
        go_wp2_with fail
        go_ret
        exact ⟨ret_int HZ.out.symm, hbel⟩
      · have ht := bts_ne h
        go_wp2_with fail
        go_roundw
        case rel =>
          refine ⟨k + 1, by omega, by go_num, hcell, ?_, hbel⟩
          intro j y hj hy
          by_cases e : j = k
          · subst e
            rw [HX.out] at hy
            cases hy
            exact h
          · exact ho.out j y (by omega) hy
        case measure => simp [intOf]; omega
    · have hke : k = bs.length := by omega
      have HZ : Hid (idxC bs s = -1) := idxC_none (hke ▸ ho.out)
      go_wp2_with fail
      go_ret
      exact ⟨ret_int HZ.out.symm, hbel⟩

end Go.Proofs.YtggbhggnemlpnaaGreat

namespace Go.Proofs.YtggbhggnemlpnaaGreat
open Go.RowKit

/-- a number -/
def IntC : Make Int := fun _ _ f x => f 0 = some (.int .i64 x)

theorem IntC.holds : Holds IntC 1 := fun _ _ _ _ f g x h _ _ c => (h 0 (by omega)).trans c

theorem info_int : (Tryz.prog.info? 3).map (fun i => (i.zero, i.size, i.bytes)) = some (some (.int .i64 0), 1, 8) := by kernel_rfl

set_option maxHeartbeats 1000000 in
theorem eqIntS_any (xs : List Int) (a a' : Option Addr) (cap cap' lo lo' : Nat) (w : World) (hg : SliceC IntC 1 lo w a xs) (hh : SliceC IntC 1 lo' w a' xs) (hsm : xs.length ≤ 1048576) :
    Calls Tryz.prog 18 #[.slice a xs.length cap, .slice a' xs.length cap'] w fun e w' => e = .returned (.bool true) ∧ Below w.heap.size w w' := by
  have HG : Hid (SliceC IntC 1 lo w a xs) := hg
  have HH : Hid (SliceC IntC 1 lo' w a' xs) := hh
  clear hg hh
  go_enter Tryz.func18, Tryz.ntmps18
  go_wp2_with fail
  go_loopw [5] (fun i wr => ∃ (k : Nat), k ≤ xs.length ∧ i = .int .i64 k ∧ Below w.heap.size w wr) (fun i _ => xs.length - (intOf i).toNat)
  case atStart => exact ⟨0, Nat.zero_le _, rfl, Below.refl _ _⟩
  case round =>
    obtain ⟨k, hk, rfl, hbel⟩ := hrel
    by_cases hlt : k < xs.length
    · obtain ⟨x, hx⟩ : ∃ x, xs[k]? = some x := ⟨xs[k], List.getElem?_eq_getElem hlt⟩
      obtain ⟨b, o, rfl, _, _, hc⟩ := (HG.out.below IntC.holds hbel (Nat.le_refl _)).at hx
      obtain ⟨b', o', rfl, _, _, hc'⟩ := (HH.out.below IntC.holds hbel (Nat.le_refl _)).at hx
      have r0 : _ = _ := hc
      have t0 : _ = _ := hc'
      simp only [Nat.mul_one, Nat.add_zero] at r0 t0
      have i0 : (0 : Int) ≤ (k : Int) := by omega
      have i1 : (k : Int) < (xs.length : Int) := by omega
      clear hx
      go_wp2_with fail
      go_region
      go_wp2_with fail
      go_roundw
      case rel => exact ⟨k + 1, by omega, by go_num, by go_grown⟩
      case measure => simp [intOf]; omega
    · go_wp2_with fail
      go_ret
      exact ⟨rfl, hbel⟩

end Go.Proofs.YtggbhggnemlpnaaGreat

namespace Go.Proofs.YtggbhggnemlpnaaGreat
open Go.RowKit

theorem lastOf_get {ns : List ByteArray} {s : ByteArray} : ∀ {n k : Nat}, lastOf ns s n = some k → k < n ∧ ns[k]? = some s
  | 0, k, h => by simp [lastOf] at h
  | n + 1, k, h => by
    unfold lastOf at h
    by_cases e : ns[n]? = some s
    · rw [if_pos e] at h
      cases h
      exact ⟨by omega, e⟩
    · rw [if_neg e] at h
      have := lastOf_get h
      exact ⟨by omega, this.2⟩

theorem map_get {α : Type} {f : α → ByteArray} {xs : List α} {k : Nat} {y : α} (h : xs[k]? = some y) : (xs.map f)[k]? = some (f y) := by
  rw [List.getElem?_map, h]
  rfl

theorem get_map {α : Type} {f : α → ByteArray} {xs : List α} {k : Nat} {s : ByteArray} (h : (xs.map f)[k]? = some s) : ∃ y, xs[k]? = some y ∧ f y = s := by
  rw [List.getElem?_map] at h
  cases e : xs[k]? with
  | none => rw [e] at h; cases h
  | some y => rw [e] at h; cases h; exact ⟨y, rfl, rfl⟩

def cntTo (f : Nat → Bool) : Nat → Nat
  | 0 => 0
  | k + 1 => cntTo f k + (if f k then 1 else 0)

theorem cntTo_congr {f g : Nat → Bool} : ∀ n, (∀ k, k < n → f k = g k) → cntTo f n = cntTo g n
  | 0, _ => rfl
  | n + 1, h => by
    unfold cntTo
    rw [cntTo_congr n (fun k hk => h k (by omega)), h n (by omega)]

theorem cntTo_le (f : Nat → Bool) : ∀ n, cntTo f n ≤ n
  | 0 => Nat.le_refl _
  | n + 1 => by
    have := cntTo_le f n
    unfold cntTo
    split <;> omega

theorem cntTo_mono (f : Nat → Bool) : ∀ n k, k ≤ n → cntTo f k ≤ cntTo f n
  | 0, k, h => by rw [show k = 0 by omega]; exact Nat.le_refl _
  | n + 1, k, h => by
    by_cases e : k = n + 1
    · rw [e]; exact Nat.le_refl _
    · have := cntTo_mono f n k (by omega)
      rw [show cntTo f (n + 1) = cntTo f n + (if f n then 1 else 0) from rfl]
      omega

theorem cntTo_yes {f : Nat → Bool} {k : Nat} (h : f k = true) : cntTo f (k + 1) = cntTo f k + 1 := by
  unfold cntTo
  rw [if_pos h]
  cases k <;> rfl

theorem cntTo_no {f : Nat → Bool} {k : Nat} (h : f k = false) : cntTo f (k + 1) = cntTo f k := by
  unfold cntTo
  rw [if_neg (by rw [h]; decide)]
  cases k <;> rfl

/-- the names of the services and of the copies -/
abbrev svN (x : Flt) : List ByteArray := x.services.map (·.name)
abbrev cpN (x : Flt) : List ByteArray := x.copies.map (·.name)

/-- the place of the service of the copy at a place -/
def svcAt (x : Flt) (p : Nat) : Option Nat := match x.copies[p]? with
  | some c => lastOf (svN x) c.service x.services.length
  | none => none

/-- a copy that waits, of the service at a place -/
def waitF (x : Flt) (s i : Nat) : Bool := match x.copies[i]? with
  | some c => decide (c.at_ = ⟨#[]⟩) && decide (lastOf (svN x) c.service x.services.length = some s)
  | none => false

def spareOf (x : Flt) (s : Nat) : Int := match x.services[s]? with
  | some y => y.spare
  | none => 0

/-- what is left of the service at a place, behind the first k copies -/
def spareI (x : Flt) (s k : Nat) : Int := spareOf x s - (cntTo (waitF x s) k : Nat)

def goF (x : Flt) (pl : List Nat) (s i : Nat) : Bool := match pl[i]? with
  | some p => decide (svcAt x p = some s)
  | none => false

/-- the places of the first k names -/
def PlOk (ns gone : List ByteArray) (k : Nat) (pl : List Nat) : Prop := pl.length = k ∧ ∀ j g, j < k → gone[j]? = some g → ∃ p, pl[j]? = some p ∧ lastOf ns g ns.length = some p

def LeaveA (x : Flt) (pl : List Nat) (k : Nat) : Prop := (∀ j p, j < k → pl[j]? = some p → ∃ c, x.copies[p]? = some c ∧ ¬ c.at_ = ⟨#[]⟩) ∧ ∀ j q p, j + 1 < k → pl[j]? = some q → pl[j + 1]? = some p → q < p

def LeaveC (x : Flt) (pl : List Nat) : Prop := ∀ s, s < x.services.length → 0 < cntTo (goF x pl s) pl.length → ((cntTo (goF x pl s) pl.length : Nat) : Int) ≤ spareI x s x.copies.length

def goS (x : Flt) (gone : List ByteArray) (nm : ByteArray) (i : Nat) : Bool := match gone[i]? with
  | some g => match x.copies[(idxC x.copies g).toNat]? with
    | some c => decide (c.service = nm)
    | none => false
  | none => false

def waitS (x : Flt) (nm : ByteArray) (i : Nat) : Bool := match x.copies[i]? with
  | some c => decide (c.service = nm) && decide (c.at_ = ⟨#[]⟩)
  | none => false

def MayA (x : Flt) (gone : List ByteArray) (k : Nat) : Prop := (∀ j g, j < k → gone[j]? = some g → 0 ≤ idxC x.copies g ∧ ∃ c, x.copies[(idxC x.copies g).toNat]? = some c ∧ ¬ c.at_ = ⟨#[]⟩) ∧ ∀ j s t, j + 1 < k → gone[j]? = some s → gone[j + 1]? = some t → Op.bytesLess s.toList t.toList = true

def MayC (x : Flt) (gone : List ByteArray) (k : Nat) : Prop := ∀ s y, s < k → x.services[s]? = some y → 0 < cntTo (goS x gone y.name) gone.length → ((cntTo (goS x gone y.name) gone.length : Nat) : Int) ≤ y.spare - (cntTo (waitS x y.name) x.copies.length : Nat)

end Go.Proofs.YtggbhggnemlpnaaGreat

namespace Go.Proofs.YtggbhggnemlpnaaGreat
open Go.RowKit Go.WideMaps Go.Maps

theorem lit_inj {a b : Int} (h : (DataW.lit (Lit.int .i64 a) : DataW Unit) = .lit (.int .i64 b)) : a = b := by
  injection h with h
  injection h

/-- places as a row's cells -/
abbrev plV (pl : List Nat) : List Value := pl.map fun k => .int .i64 ((k : Nat) : Int)

theorem PlOk.step {ns gone : List ByteArray} {k : Nat} {pl : List Nat} {g : ByteArray} {q : Nat} (h : PlOk ns gone k pl) (hg : gone[k]? = some g) (hq : lastOf ns g ns.length = some q) : PlOk ns gone (k + 1) (pl ++ [q]) := by
  refine ⟨by simp [h.1], fun j g' hj hj' => ?_⟩
  by_cases e : j = k
  · subst e
    rw [hg] at hj'
    cases hj'
    exact ⟨q, by rw [List.getElem?_append_right (by rw [h.1]; omega), h.1]; simp, hq⟩
  · obtain ⟨p, h1, h2⟩ := h.2 j g' (by omega) hj'
    exact ⟨p, by rw [List.getElem?_append_left (by rw [h.1]; omega)]; exact h1, h2⟩

theorem oneI {w : World} {sb : Nat} {v : Value} (h : w.cell? ⟨sb, 0, none⟩ = some v) : ∀ j u, [v][j]? = some u → w.cell? ((⟨sb, 0, none⟩ : Addr).add j) = some u := by
  intro j u hu
  cases j with
  | zero => simp at hu; subst hu; simpa [Addr.add] using h
  | succ j => simp at hu

set_option maxHeartbeats 2000000 in
set_option maxRecDepth 100000 in
theorem placesOf_any (p m3 : Nat) (ns gone : List ByteArray) (ga : Option Addr) (gc lo : Nat) (w : World) (p6 : w.cell? ⟨p, 6, none⟩ = some (.map (some m3))) (o3 : w.ownsMap Tryz.prog 9 (plainElem Tryz.prog 3) m3 ns.length (placesTo ns ns.length)) (hg : SliceC StrC 1 lo w ga gone) (hsm : gone.length ≤ 1048576) :
    Calls Tryz.prog 42 #[.pointer (some ⟨p, 0, none⟩), .slice ga gone.length gc] w fun e w' => Below w.heap.size w w' ∧ ((e = .returned (.tuple #[.slice none 0 0, .bool false]) ∧ ∃ (j : Nat) (g : ByteArray), gone[j]? = some g ∧ lastOf ns g ns.length = none) ∨ ∃ pl v, e = .returned (.tuple #[v, .bool true]) ∧ PlOk ns gone gone.length pl ∧ w'.ownsRow w.heap.size 3 1 v pl.length (plV pl)) := by
  obtain ⟨i0, hi, hz0, hz1, hz2⟩ := info_parts info_int
  have HI : Hid (SliceC StrC 1 lo w ga gone) := hg
  have O3 := Hid.intro o3
  have hpl : p < w.heap.size := block_lt_of_cell p6
  have hm3 : m3 < w.heap.size := o3.lt
  have P6 := Hid.intro p6
  clear hg o3 p6
  go_enter Tryz.func42, Tryz.ntmps42
  go_wp2_with fail
  go_loopw [6, 13] (fun v i wr => ∃ (k : Nat) (pl : List Nat), k ≤ gone.length ∧ i = .int .i64 k ∧ Hid (PlOk ns gone k pl) ∧ Hid (wr.ownsRow w.heap.size 3 1 v pl.length (plV pl)) ∧ Hid (Below w.heap.size w wr)) (fun _ i _ => gone.length - (intOf i).toNat)
  case atStart => exact ⟨0, [], Nat.zero_le _, rfl, ⟨rfl, fun j g h => absurd h (Nat.not_lt_zero _)⟩, World.ownsRow_nil _ _ _ _, Below.refl _ _⟩
  case round =>
    obtain ⟨k, pl, hk, rfl, hP, hO, hB⟩ := hrel
    by_cases hlt : k < gone.length
    · obtain ⟨g, hgk⟩ : ∃ g, gone[k]? = some g := ⟨gone[k], List.getElem?_eq_getElem hlt⟩
      obtain ⟨b, o, rfl, _, _, hc⟩ := (HI.out.below StrC.holds hB.out (Nat.le_refl _)).at hgk
      obtain ⟨r0, hsz⟩ := hc
      simp only [Nat.mul_one, Nat.add_zero] at r0
      have hkey : keyOf Tryz.prog 9 (.string g) = some (kOf g) := keyOf_string_mk Tryz.underlying9 hsz
      have OA := Hid.intro (ownsMap_below O3.out hB.out hm3)
      have PA : wr.cell? ⟨p, 6, none⟩ = some (.map (some m3)) := (hB.out.cell (p := ⟨p, 6, none⟩) hpl).trans P6.out
      have HX : Hid (gone[k]? = some g) := hgk
      have HH : Hid (has (placesTo ns ns.length) (kOf g) = (lastOf ns g ns.length).isSome) := has_places _ _ _
      have HA : Hid ((placesTo ns ns.length).atKey (kOf g) (.lit (.int .i64 0)) = .lit (.int .i64 (((lastOf ns g ns.length).getD 0 : Nat) : Int))) := at_places _ _ _
      clear hgk hsz
      generalize placesTo ns ns.length = D at *
      cases hq : lastOf ns g ns.length with
      | none =>
        rw [hq] at HH
        have hh : has D (kOf g) = false := HH.out
        have HQ : Hid (lastOf ns g ns.length = none) := hq
        clear hq HH HA
        go_wp2_with (first | (at_lookup; refine wpList_lookup_own_ok_int _ rfl _ _ 103 rfl 9 3 .i64 law_str Tryz.underlying103 Tryz.underlying3 (zero_int _) m3 _ _ rfl OA.out _ _ rfl hkey ?_; intro c _ _; rw [hh]))
        go_ret2
        exact ⟨hB.out, Or.inl ⟨rfl, k, g, HX.out, HQ.out⟩⟩
      | some q =>
        rw [hq] at HH HA
        have hh : has D (kOf g) = true := HH.out
        have hh2 : D.atKey (kOf g) (.lit (.int .i64 0)) = .lit (.int .i64 ((q : Nat) : Int)) := HA.out
        have HQ : Hid (lastOf ns g ns.length = some q) := hq
        clear hq HH HA
        have hpk : pl.length = k := hP.out.1
        go_wp2_with (first | (at_lookup; refine wpList_lookup_own_ok_int _ rfl _ _ 103 rfl 9 3 .i64 law_str Tryz.underlying103 Tryz.underlying3 (zero_int _) m3 _ _ rfl OA.out _ _ rfl hkey ?_; intro c hcc _; obtain rfl := lit_inj (hcc.symm.trans hh2); rw [hh]) | (at_builtin; refine wpList_append_lies _ rfl (.tmp 28) (.tmp 30) 41 rfl w.heap.size 3 i0 _ 1 8 Tryz.underlying41 hi hz0 hz1 hz2 rfl (by decide) _ pl.length _ rfl (ownsRow_below hO.out ((Below.refl _ _).alloc (Nat.le_refl _) _)) ⟨wr.heap.size, 0, none⟩ 1 1 [.int .i64 ((q : Nat) : Int)] rfl rfl (oneI (by simp)) (by intro u hu; rw [List.mem_singleton.1 hu]; rfl) (by omega) (by unfold maxLen; omega) (by omega) (by have := hB.out.size; simp; omega) _ rfl ?_; intro g2 cap2 w2 hown hgrow hto hgl))
        go_roundw
        case rel =>
          have hB1 : Below w.heap.size w (wr.alloc (Obj.cells #[Value.int IntKind.i64 ((q : Nat) : Int)] 3)) := hB.out.alloc hB.out.size _
          refine ⟨k + 1, pl ++ [q], by omega, by go_num, hP.out.step HX.out HQ.out, ?_, hB1.grown hgrow hB1.size (fun i hi => (hO.out.lt i hi).1)⟩
          show World.ownsRow _ _ _ _ _ _ _
          simpa [plV, hpk] using hown
        case measure => simp [intOf]; omega
    · have hke : k = gone.length := by omega
      subst hke
      go_wp2_with fail
      go_ret2
      exact ⟨hB.out, Or.inr ⟨pl, _, rfl, hP.out, hO.out⟩⟩

end Go.Proofs.YtggbhggnemlpnaaGreat

namespace Go.Proofs.YtggbhggnemlpnaaGreat
open Go.RowKit

/-- a block of cells -/
def Blk (g : Nat) (cs : Array Value) (t : TypeId) (w : World) : Prop := w.heap[g]? = some (.cells cs t (0, 0))

theorem Blk.lt {g : Nat} {cs : Array Value} {t : TypeId} {w : World} (h : Blk g cs t w) : g < w.heap.size := (Array.getElem?_eq_some_iff.1 h).1
theorem Blk.below {g : Nat} {cs : Array Value} {t : TypeId} {w w' : World} {B : Nat} (h : Blk g cs t w) (hb : Below B w w') (hB : g < B) : Blk g cs t w' := (hb.block g hB).trans h
theorem Blk.drew {g : Nat} {cs : Array Value} {t : TypeId} {w : World} (h : Blk g cs t w) : Blk g cs t w.drew := h
theorem Blk.cell {g : Nat} {cs : Array Value} {t : TypeId} {w : World} (h : Blk g cs t w) {o : Nat} {v : Value} (hv : cs[o]? = some v) : w.cell? ⟨g, o, none⟩ = some v := by simp [World.cell?, show w.heap[g]? = _ from h, hv]
theorem Blk.frozen {g : Nat} {cs : Array Value} {t : TypeId} {w : World} (h : Blk g cs t w) (o : Nat) : w.frozen? ⟨g, o, none⟩ = false := by simp [World.frozen?, show w.heap[g]? = _ from h]
theorem Blk.range {g : Nat} {cs : List Value} {t : TypeId} {w : World} (h : Blk g cs.toArray t w) : w.rangeAt g 0 cs := fun j v hj => by rw [Nat.zero_add]; exact h.cell (by simpa using hj)
theorem Blk.alloc (w : World) (cs : Array Value) (t : TypeId) : Blk w.heap.size cs t (w.alloc (.cells cs t)) := World.alloc_heap_new w _
theorem Blk.other {g : Nat} {cs : Array Value} {t : TypeId} {w : World} (h : Blk g cs t w) {a : Addr} (hne : g ≠ a.block) (v : Value) : Blk g cs t (w.setCell a v) := (Below.heap_setCell w a v g hne).trans h
theorem Blk.set {g : Nat} {cs : Array Value} {t : TypeId} {w : World} (h : Blk g cs t w) (o : Nat) (v : Value) : Blk g (cs.setIfInBounds o v) t (w.setCell ⟨g, o, none⟩ v) := by
  obtain ⟨hlt, hk⟩ := Array.getElem?_eq_some_iff.1 h
  show (w.heap.modify g _)[g]? = _
  rw [Array.getElem?_eq_getElem (by rw [Array.size_modify]; exact hlt), Array.getElem_modify_self, hk]
  rfl

theorem Blk.there {g : Nat} {cs : Array Value} {t : TypeId} {w : World} (h : Blk g cs t w) : w.there g 0 cs.size := fun j hj => by
  refine ⟨?_, h.frozen _⟩
  rw [h.cell (o := 0 + j) (v := cs[j]) (by simp [hj])]
  rfl

theorem Blk.rangeA {g : Nat} {cs : Array Value} {t : TypeId} {w : World} (h : Blk g cs t w) : w.rangeAt g 0 cs.toList := fun j v hj => by
  rw [Nat.zero_add]
  exact h.cell (by simpa using hj)

end Go.Proofs.YtggbhggnemlpnaaGreat

namespace Go.Proofs.YtggbhggnemlpnaaGreat
open Go.RowKit

def setRow (cs : Array Value) : Nat → List Value → Array Value
  | _, [] => cs
  | o, v :: r => setRow (cs.setIfInBounds o v) (o + 1) r

theorem take_set_succ (v : Value) : ∀ (l : List Value) (o : Nat), o < l.length → (l.set o v).take (o + 1) = l.take o ++ [v]
  | [], _, h => by simp at h
  | a :: l, 0, _ => by simp
  | a :: l, o + 1, h => by
    have ih := take_set_succ v l o (by simpa using h)
    simp [ih]

theorem setRow_list : ∀ (vs : List Value) (cs : Array Value) (o : Nat), o + vs.length = cs.size → (setRow cs o vs).toList = cs.toList.take o ++ vs
  | [], cs, o, h => by
    have : cs.toList.length ≤ o := by simp at h; simp; omega
    simp [setRow, List.take_of_length_le this]
  | v :: r, cs, o, h => by
    have h' : o + (r.length + 1) = cs.size := by simpa using h
    have ih := setRow_list r (cs.setIfInBounds o v) (o + 1) (by simp; omega)
    simp only [setRow]
    rw [ih, Array.toList_setIfInBounds, take_set_succ v _ _ (by simp; omega)]
    simp

theorem setRow_all (vs : List Value) (cs : Array Value) (h : vs.length = cs.size) : setRow cs 0 vs = vs.toArray := by
  have := setRow_list vs cs 0 (by omega)
  apply Array.toList_inj.1
  rw [this]
  simp

theorem Blk.setRow {g : Nat} {t : TypeId} : ∀ (vs : List Value) (o : Nat) (cs : Array Value) (w : World), Blk g cs t w → Blk g (setRow cs o vs) t (w.setCells g o vs)
  | [], _, _, _, h => h
  | v :: r, o, _, _, h => Blk.setRow r (o + 1) _ _ (h.set o v)

theorem Blk.setAll {g : Nat} {cs : Array Value} {t : TypeId} {w : World} (h : Blk g cs t w) (vs : Array Value) (hl : vs.size = cs.size) : Blk g vs t (w.setCells g 0 vs.toList) := by
  have := h.setRow vs.toList 0
  rw [setRow_all vs.toList cs (by simpa using hl)] at this
  simpa using this

theorem Blk.grown {g : Nat} {cs : Array Value} {t : TypeId} {w w' : World} {row : Option Nat} (h : Blk g cs t w) (hg : w.grownBy w' row) (hr : some g ≠ row) : Blk g cs t w' := (hg.block g h.lt hr).trans h

theorem blk_setCells_other {g b : Nat} {cs : Array Value} {t : TypeId} (hne : g ≠ b) : ∀ (vs : List Value) (o : Nat) (w : World), Blk g cs t w → Blk g cs t (w.setCells b o vs)
  | [], _, _, h => h
  | v :: r, o, _, h => blk_setCells_other hne r (o + 1) _ (h.other (a := ⟨b, o, none⟩) hne v)

end Go.Proofs.YtggbhggnemlpnaaGreat
