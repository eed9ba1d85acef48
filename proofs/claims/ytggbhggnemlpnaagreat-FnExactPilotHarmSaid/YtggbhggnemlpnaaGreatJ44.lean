/-
  Several texts in one: Hrp, Hra, Pof, Spr, Lvg.
-/
import Derived.Test.YtggbhggnemlpnaaGreatJ9
import Derived.Test.YtggbhggnemlpnaaGreatJ43
import Derived.Test.YtggbhggnemlpnaaGreatHr1
import Derived.Maps.OwnOps
import Derived.Deep.AppendLies
import Derived.Deep.RegionHeld3
import Derived.Lib.Walk
import Derived.Lib.SliceRun
import Derived.Test.YtggbhggnemlpnaaGreatJ41
namespace Go.Proofs.YtggbhggnemlpnaaGreat
open Go.RowKit

theorem ranks_eq {x : Flt} (hv : validI x = true) {gone : List ByteArray} {pl : List Nat} (hp : PlOk (cpN x) gone gone.length pl) : pl.map (rnkP x) = gone.map (rnkO x) ∧ KnownC x gone gone.length := by
  obtain ⟨_, _, _, hc, _, _⟩ := valid_parts hv
  have hn : (cpN x).length = x.copies.length := by simp [cpN]
  have key : ∀ (j : Nat) (g : ByteArray), gone[j]? = some g → ∃ q : Nat, pl[j]? = some q ∧ idxC x.copies g = q := by
    intro j g hg
    obtain ⟨q, h1, h2⟩ := hp.2 j g (lt_of_some hg) hg
    rw [hn] at h2
    exact ⟨q, h1, (idxC_some hc h2).1⟩
  refine ⟨?_, fun j g _ hg => ?_⟩
  · apply List.ext_getElem?
    intro j
    rw [List.getElem?_map, List.getElem?_map]
    cases hg : gone[j]? with
    | none =>
      have h1 := List.getElem?_eq_none_iff.1 hg
      rw [List.getElem?_eq_none (by rw [hp.1]; exact h1)]
      rfl
    | some g =>
      obtain ⟨q, h1, h2⟩ := key j g hg
      rw [h1]
      show some (rnkP x q) = some (rnkO x g)
      unfold rnkP rnkO
      rw [h2]
      rfl
  · obtain ⟨q, _, h2⟩ := key j g hg
    omega

theorem not_known {x : Flt} {gone : List ByteArray} {j : Nat} {g : ByteArray} (hg : gone[j]? = some g) (hl : lastOf (cpN x) g (cpN x).length = none) : ¬ KnownC x gone gone.length := by
  intro h
  have hn : (cpN x).length = x.copies.length := by simp [cpN]
  rw [hn] at hl
  have h1 := h j g (lt_of_some hg) hg
  rw [idxC_no hl] at h1
  omega

/-- the harm -/
def HrmIs (x : Flt) (gone : List ByteArray) (l : List Int) : Prop := (validI x = true ∧ KnownC x gone gone.length → l = srtD (gone.map (rnkO x))) ∧ (¬ (validI x = true ∧ KnownC x gone gone.length) → l = [])

theorem HrmIs.one {x : Flt} {gone : List ByteArray} {l m : List Int} (h1 : HrmIs x gone l) (h2 : HrmIs x gone m) : l = m := by
  by_cases h : validI x = true ∧ KnownC x gone gone.length
  · rw [h1.1 h, h2.1 h]
  · rw [h1.2 h, h2.2 h]

theorem HrmIs.len {x : Flt} {gone : List ByteArray} {l : List Int} (h1 : HrmIs x gone l) : l.length ≤ gone.length := by
  by_cases h : validI x = true ∧ KnownC x gone gone.length
  · rw [h1.1 h, srtD_len, List.length_map]
    exact Nat.le_refl _
  · rw [h1.2 h]
    exact Nat.zero_le _

end Go.Proofs.YtggbhggnemlpnaaGreat

namespace Go.Proofs.YtggbhggnemlpnaaGreat
open Go.RowKit

/-- an answer of harm -/
def HrmA (x : Flt) (gone : List ByteArray) (w : World) (e : Ending) (w' : World) : Prop := ∃ (a : Option Addr) (q : Nat) (l : List Int), e = .returned (.slice a l.length q) ∧ HrmIs x gone l ∧ w'.ownsRow (w.heap.size + 1) 3 1 (.slice a l.length q) l.length (inH l) ∧ Below w.heap.size w w'

end Go.Proofs.YtggbhggnemlpnaaGreat

namespace Go.Proofs.YtggbhggnemlpnaaGreat
open Go.RowKit Go.WideMaps Go.Maps

theorem lit_inj {a b : Int} (h : (DataW.lit (Lit.int .i64 a) : DataW Unit) = .lit (.int .i64 b)) : a = b := by
  injection h with h
  injection h

/-- places as a row's cells -/
abbrev plV (pl : List Nat) : List Value := pl.map fun k => .int .i64 ((k : Nat) : Int)

theorem PlOk.step {ns gone : List ByteArray} {k : Nat} {pl : List Nat} {g : ByteArray} {q : Nat} (h : PlOk ns gone k pl) (hg : gone[k]? = some g) (hq : lastOf ns g ns.length = some q) : PlOk ns gone (k + 1) (pl ++ [q]) := by
  refine ⟨by simp [h.1], fun j g' hj hj' => ?_⟩
  by_cases e : j = k
  · subst e
    rw [hg] at hj'
    cases hj'
    exact ⟨q, by rw [List.getElem?_append_right (by rw [h.1]; omega), h.1]; simp, hq⟩
  · obtain ⟨p, h1, h2⟩ := h.2 j g' (by omega) hj'
    exact ⟨p, by rw [List.getElem?_append_left (by rw [h.1]; omega)]; exact h1, h2⟩

theorem oneI {w : World} {sb : Nat} {v : Value} (h : w.cell? ⟨sb, 0, none⟩ = some v) : ∀ j u, [v][j]? = some u → w.cell? ((⟨sb, 0, none⟩ : Addr).add j) = some u := by
  intro j u hu
  cases j with
  | zero => simp at hu; subst hu; simpa [Addr.add] using h
  | succ j => simp at hu

set_option maxHeartbeats 2000000 in
set_option maxRecDepth 100000 in
theorem placesOf_any (p m3 : Nat) (ns gone : List ByteArray) (ga : Option Addr) (gc lo : Nat) (w : World) (p6 : w.cell? ⟨p, 6, none⟩ = some (.map (some m3))) (o3 : w.ownsMap Tryz.prog 9 (plainElem Tryz.prog 3) m3 ns.length (placesTo ns ns.length)) (hg : SliceC StrC 1 lo w ga gone) (hsm : gone.length ≤ 1048576) :
    Calls Tryz.prog 42 #[.pointer (some ⟨p, 0, none⟩), .slice ga gone.length gc] w fun e w' => Below w.heap.size w w' ∧ ((e = .returned (.tuple #[.slice none 0 0, .bool false]) ∧ ∃ (j : Nat) (g : ByteArray), gone[j]? = some g ∧ lastOf ns g ns.length = none) ∨ ∃ pl v, e = .returned (.tuple #[v, .bool true]) ∧ PlOk ns gone gone.length pl ∧ w'.ownsRow w.heap.size 3 1 v pl.length (plV pl)) := by
  obtain ⟨i0, hi, hz0, hz1, hz2⟩ := info_parts info_int
  have HI : Hid (SliceC StrC 1 lo w ga gone) := hg
  have O3 := Hid.intro o3
  have hpl : p < w.heap.size := block_lt_of_cell p6
  have hm3 : m3 < w.heap.size := o3.lt
  have P6 := Hid.intro p6
  clear hg o3 p6
  go_enter Tryz.func42, Tryz.ntmps42
  go_wp2_with fail
  go_loopw [6, 13] (fun v i wr => ∃ (k : Nat) (pl : List Nat), k ≤ gone.length ∧ i = .int .i64 k ∧ Hid (PlOk ns gone k pl) ∧ Hid (wr.ownsRow w.heap.size 3 1 v pl.length (plV pl)) ∧ Hid (Below w.heap.size w wr)) (fun _ i _ => gone.length - (intOf i).toNat)
  case atStart => exact ⟨0, [], Nat.zero_le _, rfl, ⟨rfl, fun j g h => absurd h (Nat.not_lt_zero _)⟩, World.ownsRow_nil _ _ _ _, Below.refl _ _⟩
  case round =>
    obtain ⟨k, pl, hk, rfl, hP, hO, hB⟩ := hrel
    by_cases hlt : k < gone.length
    · obtain ⟨g, hgk⟩ : ∃ g, gone[k]? = some g := ⟨gone[k], List.getElem?_eq_getElem hlt⟩
      obtain ⟨b, o, rfl, _, _, hc⟩ := (HI.out.below StrC.holds hB.out (Nat.le_refl _)).at hgk
      obtain ⟨r0, hsz⟩ := hc
      simp only [Nat.mul_one, Nat.add_zero] at r0
      have hkey : keyOf Tryz.prog 9 (.string g) = some (kOf g) := keyOf_string_mk Tryz.underlying9 hsz
      have OA := Hid.intro (ownsMap_below O3.out hB.out hm3)
      have PA : wr.cell? ⟨p, 6, none⟩ = some (.map (some m3)) := (hB.out.cell (p := ⟨p, 6, none⟩) hpl).trans P6.out
      have HX : Hid (gone[k]? = some g) := hgk
      have HH : Hid (has (placesTo ns ns.length) (kOf g) = (lastOf ns g ns.length).isSome) := has_places _ _ _
      have HA : Hid ((placesTo ns ns.length).atKey (kOf g) (.lit (.int .i64 0)) = .lit (.int .i64 (((lastOf ns g ns.length).getD 0 : Nat) : Int))) := at_places _ _ _
      clear hgk hsz
      generalize placesTo ns ns.length = D at *
      cases hq : lastOf ns g ns.length with
      | none =>
        rw [hq] at HH
        have hh : has D (kOf g) = false := HH.out
        have HQ : Hid (lastOf ns g ns.length = none) := hq
        clear hq HH HA
        go_wp2_with (first | (at_lookup; refine wpList_lookup_own_ok_int _ rfl _ _ 103 rfl 9 3 .i64 law_str Tryz.underlying103 Tryz.underlying3 (zero_int _) m3 _ _ rfl OA.out _ _ rfl hkey ?_; intro c _ _; rw [hh]))
        go_ret2
        exact ⟨hB.out, Or.inl ⟨rfl, k, g, HX.out, HQ.out⟩⟩
      | some q =>
        rw [hq] at HH HA
        have hh : has D (kOf g) = true := HH.out
        have hh2 : D.atKey (kOf g) (.lit (.int .i64 0)) = .lit (.int .i64 ((q : Nat) : Int)) := HA.out
        have HQ : Hid (lastOf ns g ns.length = some q) := hq
        clear hq HH HA
        have hpk : pl.length = k := hP.out.1
        go_wp2_with (first | (at_lookup; refine wpList_lookup_own_ok_int _ rfl _ _ 103 rfl 9 3 .i64 law_str Tryz.underlying103 Tryz.underlying3 (zero_int _) m3 _ _ rfl OA.out _ _ rfl hkey ?_; intro c hcc _; obtain rfl := lit_inj (hcc.symm.trans hh2); rw [hh]) | (at_builtin; refine wpList_append_lies _ rfl (.tmp 28) (.tmp 30) 41 rfl w.heap.size 3 i0 _ 1 8 Tryz.underlying41 hi hz0 hz1 hz2 rfl (by decide) _ pl.length _ rfl (ownsRow_below hO.out ((Below.refl _ _).alloc (Nat.le_refl _) _)) ⟨wr.heap.size, 0, none⟩ 1 1 [.int .i64 ((q : Nat) : Int)] rfl rfl (oneI (by simp)) (by intro u hu; rw [List.mem_singleton.1 hu]; rfl) (by omega) (by unfold maxLen; omega) (by omega) (by have := hB.out.size; simp; omega) _ rfl ?_; intro g2 cap2 w2 hown hgrow hto hgl))
        go_roundw
        case rel =>
          have hB1 : Below w.heap.size w (wr.alloc (Obj.cells #[Value.int IntKind.i64 ((q : Nat) : Int)] 3)) := hB.out.alloc hB.out.size _
          refine ⟨k + 1, pl ++ [q], by omega, by go_num, hP.out.step HX.out HQ.out, ?_, hB1.grown hgrow hB1.size (fun i hi => (hO.out.lt i hi).1)⟩
          show World.ownsRow _ _ _ _ _ _ _
          simpa [plV, hpk] using hown
        case measure => simp [intOf]; omega
    · have hke : k = gone.length := by omega
      subst hke
      go_wp2_with fail
      go_ret2
      exact ⟨hB.out, Or.inr ⟨pl, _, rfl, hP.out, hO.out⟩⟩

end Go.Proofs.YtggbhggnemlpnaaGreat

namespace Go.Proofs.YtggbhggnemlpnaaGreat
open Go.RowKit Go.WideMaps Go.Maps

/-- numbers as a row's cells -/
abbrev inV (is : List Int) : List Value := is.map (Value.int .i64)

theorem inV_at {is : List Int} {j : Nat} {u : Value} (h : (inV is)[j]? = some u) : ∃ i, is[j]? = some i ∧ u = .int .i64 i := by
  rw [List.getElem?_map] at h
  cases e : is[j]? with
  | none => rw [e] at h; cases h
  | some i => rw [e] at h; cases h; exact ⟨i, rfl, rfl⟩

theorem inV_one (is : List Int) : ∀ u ∈ inV is, u.oneCell' = true := by
  intro u hu
  obtain ⟨i, _, rfl⟩ := List.mem_map.1 hu
  rfl

theorem inV_set (is : List Int) (k : Nat) (v : Int) : (inV is).set k (.int .i64 v) = inV (is.set k v) := by
  simp [inV, List.map_set]

theorem look_plain {ns : List ByteArray} {m n l : Nat} {w : World} {s : ByteArray} (h : w.ownsMap Tryz.prog 9 (plainElem Tryz.prog 3) m n (placesTo ns l)) (hs : s.size ≤ maxLen) :
    (Instr.lookup 103 (.map (some m)) (.string s) false).run Tryz.prog w = .ok (.int .i64 (((lastOf ns s l).getD 0 : Nat) : Int)) w := by
  have hkey : keyOf Tryz.prog 9 (.string s) = some (kOf s) := keyOf_string_mk Tryz.underlying9 hs
  obtain ⟨c, hrun, hc, _⟩ := h.lookup_int law_str Tryz.underlying103 Tryz.underlying3 (zero_int w) hkey
  rw [hrun, lit_inj (hc.symm.trans (at_places ns s l))]

/-- the row of what is left: of each service, behind the first k copies -/
def SpRow (x : Flt) (k : Nat) (is : List Int) : Prop := is.length = x.services.length ∧ ∀ s, s < x.services.length → is[s]? = some (spareI x s k)

end Go.Proofs.YtggbhggnemlpnaaGreat

namespace Go.Proofs.YtggbhggnemlpnaaGreat
open Go.RowKit Go.WideMaps Go.Maps

theorem row_slice {w : World} {base : Nat} {e : TypeId} {v : Value} {is : List Int} (h : w.ownsRow base e 1 v is.length (inV is)) (hm : is.length ≤ maxLen) : ∃ a c, v = .slice a is.length c ∧ SliceC IntC 1 base w a is := by
  rcases h.2 with ⟨hv, h0⟩ | ⟨g, cap, cur, hv, hb, hg, _⟩
  · have : is = [] := List.length_eq_zero_iff.1 h0
    subst this
    exact ⟨none, 0, hv, SliceC.nil⟩
  · subst hv
    refine ⟨_, cap, rfl, hm, .inr ⟨g, 0, rfl, ⟨hb, fun _ p => h.frozenAt p⟩, (Array.getElem?_eq_some_iff.1 hg).1, fun j x hj => ?_⟩⟩
    have hlt := lt_of_some hj
    have := h.cellAt (j * 1 + 0) (by simp; omega)
    simp only [Nat.mul_one, Nat.add_zero, List.getElem?_map, hj, Option.map_some] at this
    show _ = _
    simpa using this

/-- places as numbers -/
abbrev plI (pl : List Nat) : List Int := pl.map fun k => ((k : Nat) : Int)

theorem plI_at {pl : List Nat} {j q : Nat} (h : pl[j]? = some q) : (plI pl)[j]? = some (q : Int) := by
  rw [List.getElem?_map, h]
  rfl

theorem plV_in (pl : List Nat) : plV pl = inV (plI pl) := by simp [plV, inV, plI]

theorem goF_at {x : Flt} {pl : List Nat} {k q s : Nat} {c : Cpy} (hq : pl[k]? = some q) (hc : x.copies[q]? = some c) (hs : lastOf (svN x) c.service x.services.length = some s) : goF x pl s k = true ∧ ∀ t, t ≠ s → goF x pl t k = false := by
  unfold goF svcAt
  rw [hq]
  simp only [hc, hs]
  exact ⟨by simp, fun t ht => by simp; exact fun e => ht e.symm⟩

/-- the row of what is left, behind the first k that go -/
def LfRow (x : Flt) (pl : List Nat) (k : Nat) (is : List Int) : Prop := is.length = x.services.length ∧ (∀ s, s < x.services.length → is[s]? = some (spareI x s x.copies.length - (cntTo (goF x pl s) k : Nat))) ∧ ∀ s, s < x.services.length → 0 < cntTo (goF x pl s) k → ((cntTo (goF x pl s) k : Nat) : Int) ≤ spareI x s x.copies.length

end Go.Proofs.YtggbhggnemlpnaaGreat
