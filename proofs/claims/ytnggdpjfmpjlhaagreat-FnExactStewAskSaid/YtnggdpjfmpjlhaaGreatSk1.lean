import Derived.Test.YtnggdpjfmpjlhaaGreatTkw
import Derived.Test.YtnggdpjfmpjlhaaGreatJ11
import Derived.Deep.AppendLies
namespace Go.Proofs.YtnggdpjfmpjlhaaGreat
open Go.RowKit

def cAt (x : Sbk) (i : Nat) : Scp := (x.copies[i]?).getD ⟨⟨#[]⟩, 0, 0, 0, 0, false, ⟨#[]⟩⟩
theorem cAt_at {x : Sbk} {i : Nat} {c : Scp} (h : x.copies[i]? = some c) : cAt x i = c := by unfold cAt; rw [h]; rfl

def lvB (s : ByteArray) (c : Scp) : Bool := decide (c.service = s) && !c.ending

def plTo (f : Nat → Bool) (k : Nat) : List Nat := (List.range k).filter f
theorem plTo_succ (f : Nat → Bool) (k : Nat) : plTo f (k + 1) = plTo f k ++ (if f k = true then [k] else []) := by
 unfold plTo
 rw [List.range_succ, List.filter_append]
 cases h : f k <;> simp [h]
theorem plTo_len (f : Nat → Bool) (k : Nat) : (plTo f k).length ≤ k := by
 unfold plTo
 have := List.length_filter_le f (List.range k)
 simpa using this
theorem plTo_lt {f : Nat → Bool} {k i : Nat} (h : i ∈ plTo f k) : i < k := by
 unfold plTo at h
 exact List.mem_range.1 (List.mem_filter.1 h).1
theorem plTo_ok {f : Nat → Bool} {k i : Nat} (h : i ∈ plTo f k) : f i = true := by
 unfold plTo at h
 exact (List.mem_filter.1 h).2

def liveL (x : Sbk) (s : ByteArray) : List Nat := plTo (fun i => lvB s (cAt x i)) x.copies.length

abbrev inV (is : List Int) : List Value := is.map (fun i => Value.int .i64 i)
abbrev toI (l : List Nat) : List Int := l.map (fun k : Nat => (k : Int))
abbrev Pls (lo : Nat) (w : World) (a : Option Addr) (l : List Nat) : Prop := SliceC IntC 1 lo w a (toI l)

theorem row_slice {w : World} {base : Nat} {e : TypeId} {v : Value} {is : List Int} (h : w.ownsRow base e 1 v is.length (inV is)) (hm : is.length ≤ maxLen) : ∃ a c, v = .slice a is.length c ∧ SliceC IntC 1 base w a is := by
 rcases h.2 with ⟨hv, h0⟩ | ⟨g, cap, cur, hv, hb, hg, _⟩
 ·have : is = [] := List.length_eq_zero_iff.1 h0
  subst this
  exact ⟨none, 0, hv, SliceC.nil⟩
 ·subst hv
  refine ⟨_, cap, rfl, hm, .inr ⟨g, 0, rfl, ⟨hb, fun _ p => h.frozenAt p⟩, (Array.getElem?_eq_some_iff.1 hg).1, fun j x hj => ?_⟩⟩
  have hlt := lt_of_some hj
  have := h.cellAt (j * 1 + 0) (by simp; omega)
  simp only [Nat.mul_one, Nat.add_zero, List.getElem?_map, hj, Option.map_some] at this
  show _ = _
  simpa using this

theorem row_pls {w : World} {base g q : Nat} {e : TypeId} {l : List Nat} (h : w.ownsRow base e 1 (.slice (some ⟨g, 0, none⟩) l.length q) l.length (inV (toI l))) (hm : l.length ≤ maxLen) : Pls base w (some ⟨g, 0, none⟩) l := by
 have h2 : w.ownsRow base e 1 (.slice (some ⟨g, 0, none⟩) (toI l).length q) (toI l).length (inV (toI l)) := by simpa using h
 obtain ⟨a, c, hv, hs⟩ := row_slice h2 (by simpa using hm)
 cases hv
 exact hs

theorem row_baseI {base g cap n : Nat} {w : World} {e : TypeId} {s : Nat} {cs : List Value} (h : w.ownsRow base e s (.slice (some ⟨g, 0, none⟩) n cap) n cs) : base ≤ g := by
 rcases h.2 with ⟨h1, _⟩ | ⟨g', cap', cur, h1, h2, _⟩
 ·cases h1
 ·cases h1; exact h2

theorem oneI {w : World} {sb : Nat} {v : Value} (h : w.cell? ⟨sb, 0, none⟩ = some v) : ∀ j u, [v][j]? = some u → w.cell? ((⟨sb, 0, none⟩ : Addr).add j) = some u := by
 intro j u hu
 cases j with
 | zero => simp at hu; subst hu; simpa [Addr.add] using h
 | succ j => simp at hu

def PlRes (l : List Nat) (w : World) (e : Ending) (w' : World) : Prop := ∃ g q : Nat, e = .returned (.slice (some ⟨g, 0, none⟩) l.length q) ∧ Pls w.heap.size w' (some ⟨g, 0, none⟩) l ∧ Below w.heap.size w w'

set_option maxHeartbeats 4000000 in
set_option maxRecDepth 100000 in
theorem live22_any (x : Sbk) (a1 : Option Addr) (c1 : Nat) (a2 : Option Addr) (c2 : Nat) (a3 : Option Addr) (c3 : Nat) (lo : Nat) (s : ByteArray) (w : World) (n2 : SliceC ScpC 7 lo w a2 x.copies) (hl : x.copies.length ≤ 1048576) :
  Calls Tryz.prog 45 #[.agg #[.int .i64 x.now, .slice a1 x.services.length c1, .slice a2 x.copies.length c2, .slice a3 x.berths.length c3], .string s] w fun e w' => PlRes (liveL x s) w e w' := by
 obtain ⟨i0, hi, hz0, hz1, hz2⟩ := info_parts info_int
 have HI : Hid (SliceC ScpC 7 lo w a2 x.copies) := n2
 clear n2
 obtain ⟨f, HFF⟩ : ∃ f, Hid (f = fun i => lvB s (cAt x i)) := ⟨_, rfl⟩
 have HG : Hid (liveL x s = plTo f x.copies.length) := by show _ = _; rw [HFF.out]; rfl
 go_enter Tryz.func45, Tryz.ntmps45
 go_wp2_with fail
 go_loopw [5, 6] (fun v i wr => ∃ (k g q : Nat), k ≤ x.copies.length ∧ i = .int .i64 k ∧ v = .slice (some ⟨g, 0, none⟩) (plTo f k).length q ∧ wr.cell? ⟨w.heap.size, 2, none⟩ = some (.slice a2 x.copies.length c2) ∧ Hid (wr.ownsRow (w.heap.size + 1) 3 1 (.slice (some ⟨g, 0, none⟩) (plTo f k).length q) (plTo f k).length (inV (toI (plTo f k)))) ∧ Below w.heap.size w wr) (fun _ i _ => x.copies.length - (intOf i).toNat)
 case atStart =>
  refine ⟨0, w.heap.size + 1, 0, Nat.zero_le _, rfl, ?_, by simp, ?_, by go_grown⟩
  ·simp [plTo]
  ·have := World.ownsRow_made (w.alloc (Obj.cells #[.int .i64 x.now, .slice a1 x.services.length c1, .slice a2 x.copies.length c2, .slice a3 x.berths.length c3] 34)) (e := 3) (size := 1) (base := w.heap.size + 1) #[] 0 (by simp) (Nat.zero_le _) rfl
   show World.ownsRow _ _ _ _ _ _ _
   simpa [plTo] using this
 case round =>
  obtain ⟨k, g, q, hk, rfl, rfl, hcell, hO, hbel⟩ := hrel
  by_cases hlt : k < x.copies.length
  ·obtain ⟨y, hx⟩ : ∃ y, x.copies[k]? = some y := ⟨x.copies[k], List.getElem?_eq_getElem hlt⟩
   obtain ⟨b, o, rfl, _, _, hc⟩ := (HI.out.below ScpC.holds hbel (Nat.le_refl _)).at hx
   obtain ⟨q0, q1, q2, q3, q4, q5, q6, z0, z1⟩ := hc
   simp only [Nat.add_zero] at q0
   have HX : Hid (f k = lvB s y) := by show _ = _; rw [HFF.out]; show lvB s (cAt x k) = _; rw [cAt_at hx]
   have hpl := plTo_len f k
   clear hx q1 q2 q3 q4 q6 z0 z1
   have hgb : w.heap.size + 1 ≤ g := row_baseI hO.out
   cases hs : (y.service.toList == s.toList) with
   | false =>
    have HN : Hid (plTo f (k + 1) = plTo f k) := by
     show _ = _
     rw [plTo_succ, HX.out]
     unfold lvB
     rw [decide_eq_false (fun e => by rw [bt_eq e] at hs; cases hs)]
     simp
    go_wp2_with fail
    go_roundw
    case rel => exact ⟨k + 1, g, q, by omega, by go_num, by rw [HN.out], hcell, by show World.ownsRow _ _ _ _ _ _ _; rw [HN.out]; exact hO.out, hbel⟩
    case measure => simp [intOf]; omega
   | true =>
    have HS : Hid (y.service = s) := by
     show _ = _
     refine Classical.byContradiction fun e => ?_
     rw [bt_ne e] at hs
     cases hs
    cases hen : y.ending with
    | true =>
     have HN : Hid (plTo f (k + 1) = plTo f k) := by
      show _ = _
      rw [plTo_succ, HX.out]
      unfold lvB
      rw [hen]
      simp
     rw [hen] at q5
     go_wp2_with fail
     go_roundw
     case rel => exact ⟨k + 1, g, q, by omega, by go_num, by rw [HN.out], hcell, by show World.ownsRow _ _ _ _ _ _ _; rw [HN.out]; exact hO.out, hbel⟩
     case measure => simp [intOf]; omega
    | false =>
     have HN : Hid (plTo f (k + 1) = plTo f k ++ [k]) := by
      show _ = _
      rw [plTo_succ, HX.out]
      unfold lvB
      rw [hen, HS.out]
      simp
     rw [hen] at q5
     have HOA := Hid.intro (ownsRow_below hO.out ((Below.refl _ wr).alloc (Nat.le_refl _) (Obj.cells #[Value.int IntKind.i64 (k : Int)] 3)))
     generalize hL : (plTo f k).length = L at *
     go_wp2_with (at_builtin; refine wpList_append_lies _ rfl (.tmp 32) (.tmp 34) 90 rfl (w.heap.size + 1) 3 i0 _ 1 8 Tryz.underlying90 hi hz0 hz1 hz2 rfl (by decide) _ L _ rfl HOA.out ⟨wr.heap.size, 0, none⟩ 1 1 [.int .i64 (k : Int)] rfl rfl (oneI (by simp)) (by intro u hu; rw [List.mem_singleton.1 hu]; rfl) (by omega) (by unfold maxLen; omega) (by omega) (by have := hbel.size; have := block_lt_of_cell hcell; simp; omega) _ rfl ?_; intro g2 cap2 w2 hown hgrow hto hgl)
     go_roundw
     case rel =>
      have hB1 : Below w.heap.size w (wr.alloc (Obj.cells #[Value.int IntKind.i64 (k : Int)] 3)) := hbel.alloc hbel.size _
      refine ⟨k + 1, g2, cap2, by omega, by go_num, ?_, ?_, ?_, hB1.grown hgrow hB1.size (fun i hi => by have e2 : g = i := Option.some.inj hi; omega)⟩
      ·rw [HN.out, List.length_append, hL]; rfl
      ·refine hgrow.cell ?_ (fun e => ?_)
       ·rw [((Below.refl _ wr).alloc (Nat.le_refl _) (Obj.cells #[Value.int IntKind.i64 (k : Int)] 3)).cell (p := ⟨w.heap.size, 2, none⟩) (block_lt_of_cell hcell)]
        exact hcell
       ·have e2 : w.heap.size = g := Option.some.inj e
        omega
      ·show World.ownsRow _ _ _ _ _ _ _
       rw [HN.out, List.length_append, hL]
       simpa [inV, toI] using hown
     case measure => simp [intOf]; omega
  ·have hke : k = x.copies.length := by omega
   subst hke
   have hpl := plTo_len f x.copies.length
   go_wp2_with fail
   go_ret
   refine ⟨g, q, ?_, ?_, hbel⟩
   ·rw [HG.out]; rfl
   ·rw [HG.out]
    have h9 := row_pls hO.out (by unfold maxLen; omega)
    exact h9.keep IntC.holds (Keeps.refl _ _) (by omega)

theorem idxR_cases (l : List Sbt) (s : ByteArray) : (idxR l s = -1 ∧ l.find? (fun t => decide (t.name = s)) = none) ∨ ∃ (k : Nat) (t : Sbt), idxR l s = (k : Int) ∧ l[k]? = some t ∧ l.find? (fun t => decide (t.name = s)) = some t := by
 cases h : l.findIdx? (fun b => decide (b.name = s)) with
 | none =>
  refine .inl ⟨by simp [idxR, h], ?_⟩
  rw [List.findIdx?_eq_none_iff] at h
  rw [List.find?_eq_none]
  intro t ht
  rw [h t ht]
  simp
 | some k =>
  obtain ⟨hk, h1, h2⟩ := List.findIdx?_eq_some_iff_getElem.1 h
  refine .inr ⟨k, l[k], by simp [idxR, h], List.getElem?_eq_getElem hk, ?_⟩
  rw [List.find?_eq_some_iff_getElem]
  exact ⟨h1, k, hk, rfl, fun j hj => by simpa using h2 j hj⟩

def drB (x : Sbk) (c : Scp) : Bool := match x.berths.find? (fun t => decide (t.name = c.berth)) with
 | some t => t.drain
 | none => false

def soonB (x : Sbk) (c d : Scp) (im : Int) : Bool :=
 if (!((c.state != 3) == (d.state != 3))) = true then c.state != 3
 else if (!((c.image != im) == (d.image != im))) = true then c.image != im
 else if (!(drB x c == drB x d)) = true then drB x c
 else decide (d.number < c.number)

set_option maxHeartbeats 4000000 in
set_option maxRecDepth 100000 in
theorem drains_any (x : Sbk) (a1 : Option Addr) (c1 : Nat) (a2 : Option Addr) (c2 : Nat) (a3 : Option Addr) (c3 : Nat) (lo : Nat) (c : Scp) (w : World) (n3 : SliceC SbtC 2 lo w a3 x.berths) (hl : x.berths.length ≤ 1048576) :
  Calls Tryz.prog 70 #[.agg #[.int .i64 x.now, .slice a1 x.services.length c1, .slice a2 x.copies.length c2, .slice a3 x.berths.length c3], .agg #[.string c.service, .int .i64 c.number, .int .i64 c.version, .int .i64 c.image, .int .i64 c.state, .bool c.ending, .string c.berth]] w fun e w' => e = .returned (.bool (drB x c)) ∧ Below w.heap.size w w' := by
 have HN3 := Hid.intro n3
 clear n3
 have hb1 : Blk w.heap.size #[.int .i64 x.now, .slice a1 x.services.length c1, .slice a2 x.copies.length c2, .slice a3 x.berths.length c3] 34 (w.alloc (Obj.cells #[.int .i64 x.now, .slice a1 x.services.length c1, .slice a2 x.copies.length c2, .slice a3 x.berths.length c3] 34)) := Blk.alloc _ _ _
 have HB2 : Hid (Blk w.heap.size #[.int .i64 x.now, .slice a1 x.services.length c1, .slice a2 x.copies.length c2, .slice a3 x.berths.length c3] 34 ((w.alloc (Obj.cells #[.int .i64 x.now, .slice a1 x.services.length c1, .slice a2 x.copies.length c2, .slice a3 x.berths.length c3] 34)).alloc (Obj.cells #[.string c.service, .int .i64 c.number, .int .i64 c.version, .int .i64 c.image, .int .i64 c.state, .bool c.ending, .string c.berth] 87))) := hb1.below ((Below.refl _ _).alloc (Nat.le_refl _) _) hb1.lt
 have HC2 : Hid (Blk (w.heap.size + 1) #[.string c.service, .int .i64 c.number, .int .i64 c.version, .int .i64 c.image, .int .i64 c.state, .bool c.ending, .string c.berth] 87 ((w.alloc (Obj.cells #[.int .i64 x.now, .slice a1 x.services.length c1, .slice a2 x.copies.length c2, .slice a3 x.berths.length c3] 34)).alloc (Obj.cells #[.string c.service, .int .i64 c.number, .int .i64 c.version, .int .i64 c.image, .int .i64 c.state, .bool c.ending, .string c.berth] 87))) := by
  have := Blk.alloc (w.alloc (Obj.cells #[.int .i64 x.now, .slice a1 x.services.length c1, .slice a2 x.copies.length c2, .slice a3 x.berths.length c3] 34)) #[.string c.service, .int .i64 c.number, .int .i64 c.version, .int .i64 c.image, .int .i64 c.state, .bool c.ending, .string c.berth] 87
  show Blk _ _ _ _
  simpa using this
 have hB2 : Below w.heap.size w ((w.alloc (Obj.cells #[.int .i64 x.now, .slice a1 x.services.length c1, .slice a2 x.copies.length c2, .slice a3 x.berths.length c3] 34)).alloc (Obj.cells #[.string c.service, .int .i64 c.number, .int .i64 c.version, .int .i64 c.image, .int .i64 c.state, .bool c.ending, .string c.berth] 87)) := by go_grown
 clear hb1
 go_enter Tryz.func70, Tryz.ntmps70
 go_upto_region 1 with fail
 generalize (w.alloc (Obj.cells #[.int .i64 x.now, .slice a1 x.services.length c1, .slice a2 x.copies.length c2, .slice a3 x.berths.length c3] 34)).alloc (Obj.cells #[.string c.service, .int .i64 c.number, .int .i64 c.version, .int .i64 c.image, .int .i64 c.state, .bool c.ending, .string c.berth] 87) = w2 at *
 have k6 : w2.cell? ⟨w.heap.size + 1, 6, none⟩ = some (.string c.berth) := HC2.out.cell rfl
 clear HC2
 generalize w.heap.size + 1 = g at *
 go_wp2_with (refine wpList_load_mid rfl 34 _ rfl w.heap.size 0 rfl [.int .i64 x.now, .slice a1 x.services.length c1, .slice a2 x.copies.length c2, .slice a3 x.berths.length c3] _ HB2.out.rangeA Tryz.underlying34 rfl isz_Sbk ?_)
 refine (berth_at x a1 c1 a2 c2 a3 c3 lo c.berth _ (HN3.out.below SbtC.holds hB2 (Nat.le_refl _)) hl).mono ?_
 rintro e w3 ⟨rfl, hb⟩
 have HB3 := Hid.intro (HB2.out.below hb HB2.out.lt)
 have hB3 := hB2.trans (hb.mono hB2.size)
 clear hb HB2 hB2 k6
 rcases idxR_cases x.berths c.berth with ⟨hi, hn⟩ | ⟨k, t, hi, hk, hf⟩
 ·rw [hi]
  have HE : Hid (drB x c = false) := by show _ = _; unfold drB; rw [hn]
  clear hi hn
  go_wp2_with fail
  go_ret
  exact ⟨ret_bool HE.out.symm, hB3⟩
 ·rw [hi]
  have HE : Hid (drB x c = t.drain) := by show _ = _; unfold drB; rw [hf]
  have hkl : k < x.berths.length := (List.getElem?_eq_some_iff.1 hk).1
  obtain ⟨b3, o3, ea, _, hbl, hcl⟩ := (HN3.out.below SbtC.holds hB3 (Nat.le_refl _)).at hk
  subst ea
  obtain ⟨q0, q1, z0⟩ := hcl
  have k3 : w3.cell? ⟨w.heap.size, 3, none⟩ = some (.slice (some ⟨b3, o3, none⟩) x.berths.length c3) := HB3.out.cell rfl
  clear hi hk hf q0 z0
  go_wp2_with fail
  go_ret
  exact ⟨ret_bool HE.out.symm, hB3⟩

set_option maxHeartbeats 8000000 in
set_option maxRecDepth 100000 in
theorem sooner_any (x : Sbk) (a1 : Option Addr) (c1 : Nat) (a2 : Option Addr) (c2 : Nat) (a3 : Option Addr) (c3 : Nat) (lo : Nat) (c d : Scp) (im : Int) (w : World) (n3 : SliceC SbtC 2 lo w a3 x.berths) (hl : x.berths.length ≤ 1048576) :
  Calls Tryz.prog 93 #[.agg #[.int .i64 x.now, .slice a1 x.services.length c1, .slice a2 x.copies.length c2, .slice a3 x.berths.length c3], .agg #[.string c.service, .int .i64 c.number, .int .i64 c.version, .int .i64 c.image, .int .i64 c.state, .bool c.ending, .string c.berth], .agg #[.string d.service, .int .i64 d.number, .int .i64 d.version, .int .i64 d.image, .int .i64 d.state, .bool d.ending, .string d.berth], .int .i64 im] w fun e w' => e = .returned (.bool (soonB x c d im)) ∧ Below w.heap.size w w' := by
 have HN3 := Hid.intro n3
 clear n3
 have hb1 : Blk w.heap.size #[.int .i64 x.now, .slice a1 x.services.length c1, .slice a2 x.copies.length c2, .slice a3 x.berths.length c3] 34 (w.alloc (Obj.cells #[.int .i64 x.now, .slice a1 x.services.length c1, .slice a2 x.copies.length c2, .slice a3 x.berths.length c3] 34)) := Blk.alloc _ _ _
 have hb2 : Blk w.heap.size #[.int .i64 x.now, .slice a1 x.services.length c1, .slice a2 x.copies.length c2, .slice a3 x.berths.length c3] 34 ((w.alloc (Obj.cells #[.int .i64 x.now, .slice a1 x.services.length c1, .slice a2 x.copies.length c2, .slice a3 x.berths.length c3] 34)).alloc (Obj.cells #[.string c.service, .int .i64 c.number, .int .i64 c.version, .int .i64 c.image, .int .i64 c.state, .bool c.ending, .string c.berth] 87)) := hb1.below ((Below.refl _ _).alloc (Nat.le_refl _) _) hb1.lt
 have HB3 : Hid (Blk w.heap.size #[.int .i64 x.now, .slice a1 x.services.length c1, .slice a2 x.copies.length c2, .slice a3 x.berths.length c3] 34 (((w.alloc (Obj.cells #[.int .i64 x.now, .slice a1 x.services.length c1, .slice a2 x.copies.length c2, .slice a3 x.berths.length c3] 34)).alloc (Obj.cells #[.string c.service, .int .i64 c.number, .int .i64 c.version, .int .i64 c.image, .int .i64 c.state, .bool c.ending, .string c.berth] 87)).alloc (Obj.cells #[.string d.service, .int .i64 d.number, .int .i64 d.version, .int .i64 d.image, .int .i64 d.state, .bool d.ending, .string d.berth] 87))) := hb2.below ((Below.refl _ _).alloc (Nat.le_refl _) _) hb2.lt
 have hc2 : Blk (w.heap.size + 1) #[.string c.service, .int .i64 c.number, .int .i64 c.version, .int .i64 c.image, .int .i64 c.state, .bool c.ending, .string c.berth] 87 ((w.alloc (Obj.cells #[.int .i64 x.now, .slice a1 x.services.length c1, .slice a2 x.copies.length c2, .slice a3 x.berths.length c3] 34)).alloc (Obj.cells #[.string c.service, .int .i64 c.number, .int .i64 c.version, .int .i64 c.image, .int .i64 c.state, .bool c.ending, .string c.berth] 87)) := by
  have := Blk.alloc (w.alloc (Obj.cells #[.int .i64 x.now, .slice a1 x.services.length c1, .slice a2 x.copies.length c2, .slice a3 x.berths.length c3] 34)) #[.string c.service, .int .i64 c.number, .int .i64 c.version, .int .i64 c.image, .int .i64 c.state, .bool c.ending, .string c.berth] 87
  simpa using this
 have HC3 : Hid (Blk (w.heap.size + 1) #[.string c.service, .int .i64 c.number, .int .i64 c.version, .int .i64 c.image, .int .i64 c.state, .bool c.ending, .string c.berth] 87 (((w.alloc (Obj.cells #[.int .i64 x.now, .slice a1 x.services.length c1, .slice a2 x.copies.length c2, .slice a3 x.berths.length c3] 34)).alloc (Obj.cells #[.string c.service, .int .i64 c.number, .int .i64 c.version, .int .i64 c.image, .int .i64 c.state, .bool c.ending, .string c.berth] 87)).alloc (Obj.cells #[.string d.service, .int .i64 d.number, .int .i64 d.version, .int .i64 d.image, .int .i64 d.state, .bool d.ending, .string d.berth] 87))) := hc2.below ((Below.refl _ _).alloc (Nat.le_refl _) _) hc2.lt
 have HD3 : Hid (Blk (w.heap.size + 1 + 1) #[.string d.service, .int .i64 d.number, .int .i64 d.version, .int .i64 d.image, .int .i64 d.state, .bool d.ending, .string d.berth] 87 (((w.alloc (Obj.cells #[.int .i64 x.now, .slice a1 x.services.length c1, .slice a2 x.copies.length c2, .slice a3 x.berths.length c3] 34)).alloc (Obj.cells #[.string c.service, .int .i64 c.number, .int .i64 c.version, .int .i64 c.image, .int .i64 c.state, .bool c.ending, .string c.berth] 87)).alloc (Obj.cells #[.string d.service, .int .i64 d.number, .int .i64 d.version, .int .i64 d.image, .int .i64 d.state, .bool d.ending, .string d.berth] 87))) := by
  have := Blk.alloc ((w.alloc (Obj.cells #[.int .i64 x.now, .slice a1 x.services.length c1, .slice a2 x.copies.length c2, .slice a3 x.berths.length c3] 34)).alloc (Obj.cells #[.string c.service, .int .i64 c.number, .int .i64 c.version, .int .i64 c.image, .int .i64 c.state, .bool c.ending, .string c.berth] 87)) #[.string d.service, .int .i64 d.number, .int .i64 d.version, .int .i64 d.image, .int .i64 d.state, .bool d.ending, .string d.berth] 87
  show Blk _ _ _ _
  simpa using this
 have hB3 : Below w.heap.size w (((w.alloc (Obj.cells #[.int .i64 x.now, .slice a1 x.services.length c1, .slice a2 x.copies.length c2, .slice a3 x.berths.length c3] 34)).alloc (Obj.cells #[.string c.service, .int .i64 c.number, .int .i64 c.version, .int .i64 c.image, .int .i64 c.state, .bool c.ending, .string c.berth] 87)).alloc (Obj.cells #[.string d.service, .int .i64 d.number, .int .i64 d.version, .int .i64 d.image, .int .i64 d.state, .bool d.ending, .string d.berth] 87)) := by go_grown
 clear hb1 hb2 hc2
 go_enter Tryz.func93, Tryz.ntmps93
 go_upto_region 1 with fail
 generalize ((w.alloc (Obj.cells #[.int .i64 x.now, .slice a1 x.services.length c1, .slice a2 x.copies.length c2, .slice a3 x.berths.length c3] 34)).alloc (Obj.cells #[.string c.service, .int .i64 c.number, .int .i64 c.version, .int .i64 c.image, .int .i64 c.state, .bool c.ending, .string c.berth] 87)).alloc (Obj.cells #[.string d.service, .int .i64 d.number, .int .i64 d.version, .int .i64 d.image, .int .i64 d.state, .bool d.ending, .string d.berth] 87) = w3 at *
 generalize w.heap.size + 1 + 1 = h at *
 generalize w.heap.size + 1 = g at *
 have kc1 : w3.cell? ⟨g, 1, none⟩ = some (.int .i64 c.number) := HC3.out.cell rfl
 have kd1 : w3.cell? ⟨h, 1, none⟩ = some (.int .i64 d.number) := HD3.out.cell rfl
 have kc3 : w3.cell? ⟨g, 3, none⟩ = some (.int .i64 c.image) := HC3.out.cell rfl
 have kd3 : w3.cell? ⟨h, 3, none⟩ = some (.int .i64 d.image) := HD3.out.cell rfl
 have kc4 : w3.cell? ⟨g, 4, none⟩ = some (.int .i64 c.state) := HC3.out.cell rfl
 have kd4 : w3.cell? ⟨h, 4, none⟩ = some (.int .i64 d.state) := HD3.out.cell rfl
 cases h1 : (!((c.state != 3) == (d.state != 3))) with
 | true =>
  have HE : Hid (soonB x c d im = (c.state != 3)) := if_pos h1
  go_wp2_with fail
  go_ret
  exact ⟨ret_bool HE.out.symm, hB3⟩
 | false =>
  have HE1 : Hid (soonB x c d im = if (!((c.image != im) == (d.image != im))) = true then c.image != im else if (!(drB x c == drB x d)) = true then drB x c else decide (d.number < c.number)) := if_neg (by rw [h1]; exact Bool.false_ne_true)
  cases h2 : (!((c.image != im) == (d.image != im))) with
  | true =>
   have HE : Hid (soonB x c d im = (c.image != im)) := by show _ = _; rw [HE1.out]; exact if_pos h2
   clear HE1
   go_wp2_with fail
   go_ret
   exact ⟨ret_bool HE.out.symm, hB3⟩
  | false =>
   have HE2 : Hid (soonB x c d im = if (!(drB x c == drB x d)) = true then drB x c else decide (d.number < c.number)) := by show _ = _; rw [HE1.out]; exact if_neg (by rw [h2]; exact Bool.false_ne_true)
   clear HE1
   go_upto_region 5 with fail
   clear h1 h2
   go_cut [38] (fun p wz => p = .bool (!(drB x c == drB x d)) ∧ Hid (Blk w.heap.size #[.int .i64 x.now, .slice a1 x.services.length c1, .slice a2 x.copies.length c2, .slice a3 x.berths.length c3] 34 wz) ∧ Hid (Blk g #[.string c.service, .int .i64 c.number, .int .i64 c.version, .int .i64 c.image, .int .i64 c.state, .bool c.ending, .string c.berth] 87 wz) ∧ Hid (Blk h #[.string d.service, .int .i64 d.number, .int .i64 d.version, .int .i64 d.image, .int .i64 d.state, .bool d.ending, .string d.berth] 87 wz) ∧ Below w.heap.size w wz)
   case first =>
    refine wp_region_held_drew (S := fun wy => Blk w.heap.size #[.int .i64 x.now, .slice a1 x.services.length c1, .slice a2 x.copies.length c2, .slice a3 x.berths.length c3] 34 wy ∧ Blk g #[.string c.service, .int .i64 c.number, .int .i64 c.version, .int .i64 c.image, .int .i64 c.state, .bool c.ending, .string c.berth] 87 wy ∧ Blk h #[.string d.service, .int .i64 d.number, .int .i64 d.version, .int .i64 d.image, .int .i64 d.state, .bool d.ending, .string d.berth] 87 wy) (by kernel_rfl) ⟨HB3.out.drew, HC3.out.drew, HD3.out.drew⟩ (fun hS => ?_)
    replace hB3 := hB3.drew
    clear HB3 HC3 HD3
    generalize w3.drew = wn at *
    refine tm 0 32 w.heap.size 0 [.int .i64 x.now, .slice a1 x.services.length c1, .slice a2 x.copies.length c2, .slice a3 x.berths.length c3] rfl (fun _ h => h.1.rangeA) Tryz.underlying34 isz_Sbk hS ?_
    simp only [pA,pB,pC,pD]
    refine tm 1 33 g 0 [.string c.service, .int .i64 c.number, .int .i64 c.version, .int .i64 c.image, .int .i64 c.state, .bool c.ending, .string c.berth] rfl (fun _ h => h.2.1.rangeA) Tryz.underlying87 isz_Scp hS ?_
    simp only [pA,pB,pC,pD]
    refine tm 3 35 w.heap.size 0 [.int .i64 x.now, .slice a1 x.services.length c1, .slice a2 x.copies.length c2, .slice a3 x.berths.length c3] rfl (fun _ h => h.1.rangeA) Tryz.underlying34 isz_Sbk hS ?_
    simp only [pA,pB,pC,pD]
    refine tm 4 36 h 0 [.string d.service, .int .i64 d.number, .int .i64 d.version, .int .i64 d.image, .int .i64 d.state, .bool d.ending, .string d.berth] rfl (fun _ h => h.2.2.rangeA) Tryz.underlying87 isz_Scp hS ?_
    simp only [pA,pB,pC,pD]
    refine rd1 2 ⟨some 34, _, _, _, _, none⟩ rfl (fun KK hKK => ?_)
    rw [if_pos (by rfl)]
    go_simp
    refine (drains_any x a1 c1 a2 c2 a3 c3 lo c _ (HN3.out.below SbtC.holds hB3 (Nat.le_refl _)) hl).mono ?_
    rintro e wn ⟨rfl, hb⟩
    replace hB3 := hB3.trans (hb.mono hB3.size)
    refine hKK.out _ _ ⟨hS.1.below hb hS.1.lt, hS.2.1.below hb hS.2.1.lt, hS.2.2.below hb hS.2.2.lt⟩ (fun hS => ?_)
    clear hKK KK hb
    refine rd1 5 ⟨some 37, _, _, _, _, none⟩ rfl (fun KK hKK => ?_)
    rw [if_pos (by rfl)]
    go_simp
    refine (drains_any x a1 c1 a2 c2 a3 c3 lo d _ (HN3.out.below SbtC.holds hB3 (Nat.le_refl _)) hl).mono ?_
    rintro e wn ⟨rfl, hb⟩
    replace hB3 := hB3.trans (hb.mono hB3.size)
    refine hKK.out _ _ ⟨hS.1.below hb hS.1.lt, hS.2.1.below hb hS.2.1.lt, hS.2.2.below hb hS.2.2.lt⟩ (fun hS => ?_)
    clear hKK KK hb
    refine tz 6 38 (.bool (!(drB x c == drB x d))) rfl hS ?_
    simp only [pA,pB,pC,pD]
    have hS9 := hS
    refine wpAnyH_done (by kernel_rfl) ?_ _
    clear hS
    go_wp2_with fail
    go_meet
    exact ⟨rfl, hS9.1, hS9.2.1, hS9.2.2, hB3⟩
   case rest =>
    obtain ⟨rfl, HB4, HC4, HD4, hB4⟩ := hcut
    clear HB3 HC3 HD3 hB3
    generalize wc = w4 at *
    cases h3 : (!(drB x c == drB x d)) with
    | true =>
     have HE : Hid (soonB x c d im = drB x c) := by show _ = _; rw [HE2.out]; exact if_pos h3
     clear HE2 h3
     go_wp2_with (first | (refine wpList_load_mid rfl 34 _ rfl w.heap.size 0 rfl [.int .i64 x.now, .slice a1 x.services.length c1, .slice a2 x.copies.length c2, .slice a3 x.berths.length c3] _ HB4.out.rangeA Tryz.underlying34 rfl isz_Sbk ?_) | (refine wpList_load_mid rfl 87 _ rfl g 0 rfl [.string c.service, .int .i64 c.number, .int .i64 c.version, .int .i64 c.image, .int .i64 c.state, .bool c.ending, .string c.berth] _ HC4.out.rangeA Tryz.underlying87 rfl isz_Scp ?_))
     refine (drains_any x a1 c1 a2 c2 a3 c3 lo c _ (HN3.out.below SbtC.holds hB4 (Nat.le_refl _)) hl).mono ?_
     rintro e w5 ⟨rfl, hb⟩
     have hB5 := hB4.trans (hb.mono hB4.size)
     go_wp2_with fail
     go_ret
     exact ⟨ret_bool HE.out.symm, hB5⟩
    | false =>
     have HE : Hid (soonB x c d im = decide (d.number < c.number)) := by show _ = _; rw [HE2.out]; exact if_neg (by rw [h3]; exact Bool.false_ne_true)
     clear HE2 h3
     have e1 : w4.cell? ⟨g, 1, none⟩ = some (.int .i64 c.number) := HC4.out.cell rfl
     have e2 : w4.cell? ⟨h, 1, none⟩ = some (.int .i64 d.number) := HD4.out.cell rfl
     go_wp2_with fail
     go_ret
     exact ⟨ret_bool HE.out.symm, hB4⟩

end Go.Proofs.YtnggdpjfmpjlhaaGreat
