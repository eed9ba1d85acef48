/-
  Several texts in one: Bls, Ims, LawS.
-/
import Derived.Test.YthndbjhhhdbhpaaGreatJ40
import Derived.Test.YthndbjhhhdbhpaaGreatScr
import Derived.Test.YthndbjhhhdbhpaaGreatJ33
namespace Go.Proofs.YthndbjhhhdbhpaaGreat
open Go.RowKit

def setRow (cs : Array Value) : Nat → List Value → Array Value
  | _, [] => cs
  | o, v :: r => setRow (cs.setIfInBounds o v) (o + 1) r

theorem take_set_succ (v : Value) : ∀ (l : List Value) (o : Nat), o < l.length → (l.set o v).take (o + 1) = l.take o ++ [v]
  | [], _, h => by simp at h
  | a :: l, 0, _ => by simp
  | a :: l, o + 1, h => by
    have ih := take_set_succ v l o (by simpa using h)
    simp [ih]

theorem setRow_list : ∀ (vs : List Value) (cs : Array Value) (o : Nat), o + vs.length = cs.size → (setRow cs o vs).toList = cs.toList.take o ++ vs
  | [], cs, o, h => by
    have : cs.toList.length ≤ o := by simp at h; simp; omega
    simp [setRow, List.take_of_length_le this]
  | v :: r, cs, o, h => by
    have h' : o + (r.length + 1) = cs.size := by simpa using h
    have ih := setRow_list r (cs.setIfInBounds o v) (o + 1) (by simp; omega)
    simp only [setRow]
    rw [ih, Array.toList_setIfInBounds, take_set_succ v _ _ (by simp; omega)]
    simp

theorem setRow_all (vs : List Value) (cs : Array Value) (h : vs.length = cs.size) : setRow cs 0 vs = vs.toArray := by
  have := setRow_list vs cs 0 (by omega)
  apply Array.toList_inj.1
  rw [this]
  simp

theorem Blk.setRow {g : Nat} {t : TypeId} : ∀ (vs : List Value) (o : Nat) (cs : Array Value) (w : World), Blk g cs t w → Blk g (setRow cs o vs) t (w.setCells g o vs)
  | [], _, _, _, h => h
  | v :: r, o, _, _, h => Blk.setRow r (o + 1) _ _ (h.set o v)

theorem Blk.setAll {g : Nat} {cs : Array Value} {t : TypeId} {w : World} (h : Blk g cs t w) (vs : Array Value) (hl : vs.size = cs.size) : Blk g vs t (w.setCells g 0 vs.toList) := by
  have := h.setRow vs.toList 0
  rw [setRow_all vs.toList cs (by simpa using hl)] at this
  simpa using this

end Go.Proofs.YthndbjhhhdbhpaaGreat

namespace Go.Proofs.YthndbjhhhdbhpaaGreat
open Go.RowKit Go.WideMaps Go.Maps

set_option maxHeartbeats 4000000 in
set_option maxRecDepth 100000 in
theorem implScoreOf_any (x : Flt) (a1 : Option Addr) (c1 : Nat) (a2 : Option Addr) (c2 : Nat) (a3 : Option Addr) (c3 : Nat) (lo : Nat) (cn bn : ByteArray) (w : World) (n1 : SliceC BrtC 6 lo w a1 x.berths) (n2 : SliceC SvcC 2 lo w a2 x.services) (n3 : SliceC CpyC 12 lo w a3 x.copies)
    (l1 : x.berths.length ≤ 1048576) (l2 : x.services.length ≤ 1048576) (l3 : x.copies.length ≤ 1048576) (hcn : cn.size ≤ maxLen) (hbn : bn.size ≤ maxLen) :
    Calls Tryz.prog 7 #[.agg #[.bool x.pack, .slice a1 x.berths.length c1, .slice a2 x.services.length c2, .slice a3 x.copies.length c3], .string cn, .string bn] w fun e w' => e = .returned (.agg (scoreR x cn bn)) ∧ Below w.heap.size w w' := by
  have N1 := Hid.intro n1
  have N2 := Hid.intro n2
  have N3 := Hid.intro n3
  clear n1 n2 n3
  go_enter Tryz.func7, Tryz.ntmps7
  go_wp2_with fail
  have e2 : Blk (w.heap.size + 1) #[.int .i64 0, .int .i64 0, .int .i64 0, .int .i64 0] 29 ((w.alloc (Obj.cells #[.bool x.pack, .slice a1 x.berths.length c1, .slice a2 x.services.length c2, .slice a3 x.copies.length c3] 35)).alloc (Obj.cells #[.int .i64 0, .int .i64 0, .int .i64 0, .int .i64 0] 29)) := by
    have h := Blk.alloc (w.alloc (Obj.cells #[.bool x.pack, .slice a1 x.berths.length c1, .slice a2 x.services.length c2, .slice a3 x.copies.length c3] 35)) #[.int .i64 0, .int .i64 0, .int .i64 0, .int .i64 0] 29
    simpa using h
  have e3 : Below w.heap.size w ((w.alloc (Obj.cells #[.bool x.pack, .slice a1 x.berths.length c1, .slice a2 x.services.length c2, .slice a3 x.copies.length c3] 35)).alloc (Obj.cells #[.int .i64 0, .int .i64 0, .int .i64 0, .int .i64 0] 29)) := ((Below.refl _ w).alloc (Nat.le_refl _) _).alloc (by simp) _
  have HZ0 := Hid.intro e2
  have HB0 := Hid.intro e3
  clear e2 e3
  generalize (w.alloc (Obj.cells #[.bool x.pack, .slice a1 x.berths.length c1, .slice a2 x.services.length c2, .slice a3 x.copies.length c3] 35)).alloc (Obj.cells #[.int .i64 0, .int .i64 0, .int .i64 0, .int .i64 0] 29) = w0 at *
  have M1 := Hid.intro (N1.out.below BrtC.holds HB0.out (Nat.le_refl _))
  have M3 := Hid.intro (N3.out.below CpyC.holds HB0.out (Nat.le_refl _))
  refine (spotIn_any x a1 c1 a2 c2 a3 c3 lo cn bn w0 M1.out (N2.out.below SvcC.holds HB0.out (Nat.le_refl _)) M3.out l1 l2 l3 hcn hbn).mono ?_
  rintro e w1 ⟨hres, hb1⟩
  have HB1 : Hid (Below w0.heap.size w0 w1) := hb1
  have HZ1 := Hid.intro (HZ0.out.below hb1 HZ0.out.lt)
  have HW1 : Hid (Below w.heap.size w w1) := HB0.out.trans (hb1.mono HB0.out.size)
  clear hb1
  have HT1 := Hid.intro HZ1.out.there
  rcases hres with ⟨rfl, hsc⟩ | ⟨p, m1, m2, m3, m4, ci, bi, y, b, a7, c7, am, cm, rfl, hv, hy, hb, hsc, hF, hp, hm4, s7, sm⟩
  · have HSC := Hid.intro hsc
    clear hsc
    have hza : Blk w1.heap.size zeroSpot 59 (w1.alloc (Obj.cells zeroSpot 59)) := Blk.alloc _ _ _
    have HTS : Hid ((w1.alloc (Obj.cells zeroSpot 59)).there w1.heap.size 0 24) := hza.there
    obtain ⟨w2, HW2⟩ : ∃ w2, Hid (w2 = (w1.alloc (Obj.cells zeroSpot 59)).setCells w1.heap.size 0 zeroSpot.toList) := ⟨_, rfl⟩
    have HX2 : Hid (Blk w1.heap.size zeroSpot 59 w2) := by
      show Blk _ _ _ _
      rw [HW2.out]
      exact hza.setAll zeroSpot rfl
    have hbs : Below w1.heap.size w1 w2 := by
      rw [HW2.out]
      exact below_setCells (Nat.le_refl _) _ _ _ ((Below.refl _ w1).alloc (Nat.le_refl _) _)
    clear hza
    have HZ2 := Hid.intro (HZ1.out.below hbs HZ1.out.lt)
    have HT := Hid.intro HZ2.out.there
    have hR10 := World.rangeAt_setCells_same w2 (w.heap.size + 1) 0 [.int .i64 0, .int .i64 0, .int .i64 0, .int .i64 0] HZ2.out.there
    have hB10 : Below w.heap.size w (w2.setCells (w.heap.size + 1) 0 [.int .i64 0, .int .i64 0, .int .i64 0, .int .i64 0]) := below_setCells (by omega) _ _ _ (HW1.out.trans (hbs.mono HW1.out.size))
    obtain ⟨w10, HW10⟩ : ∃ w10, Hid (w10 = w2.setCells (w.heap.size + 1) 0 [.int .i64 0, .int .i64 0, .int .i64 0, .int .i64 0]) := ⟨_, rfl⟩
    rw [← HW10.out] at hR10 hB10
    have HR10 := Hid.intro hR10
    have HB10 := Hid.intro hB10
    clear hR10 hB10 hbs
    go_upto_region 2 with (first | (refine wpList_store_to rfl 59 _ _ rfl w1.heap.size 0 zeroSpot rfl rfl HTS.out isz_Spot (by simp [Value.oneCell']) w2 HW2.out ?_))
    go_wp2_with (first | (refine wpList_store_to rfl 29 _ _ rfl (w.heap.size + 1) 0 #[.int .i64 0, .int .i64 0, .int .i64 0, .int .i64 0] rfl rfl HT.out isz_Score (by simp [Value.oneCell']) w10 HW10.out ?_))
    exact bodyPost_ret (results_cell_mid rfl _ _ (w.heap.size + 1) [.int .i64 0, .int .i64 0, .int .i64 0, .int .i64 0] _ rfl HR10.out Tryz.underlying29 rfl isz_Score) rfl ⟨by rw [HSC.out], HB10.out⟩
  · obtain ⟨u1, hu1⟩ : ∃ u : Int, u = (useTo x.copies b.name ci x.copies.length).1 := ⟨_, rfl⟩
    obtain ⟨u2, hu2⟩ : ∃ u : Int, u = (useTo x.copies b.name ci x.copies.length).2.1 := ⟨_, rfl⟩
    obtain ⟨u3, hu3⟩ : ∃ u : Int, u = (useTo x.copies b.name ci x.copies.length).2.2 := ⟨_, rfl⟩
    rw [← hu1, ← hu2, ← hu3]
    have HU : Hid (u2 = roomTo x ci b.name x.copies.length) := hu2.trans (use_room ci b.name (fun k c h => ((valid_more hv).2.2.2 k c h).1) _ (valid_parts hv).2.1)
    clear hu1 hu2 hu3
    have HSC := Hid.intro hsc
    have HF := Hid.intro hF
    have HV := Hid.intro hv
    have HY := Hid.intro hy
    have HB := Hid.intro hb
    have HP := Hid.intro hp
    have HM := Hid.intro hm4
    have S7 := Hid.intro s7
    have SM := Hid.intro sm
    clear hsc hF hv hy hb hp hm4 s7 sm
    have hza : Blk w1.heap.size zeroSpot 59 (w1.alloc (Obj.cells zeroSpot 59)) := Blk.alloc _ _ _
    have HTS : Hid ((w1.alloc (Obj.cells zeroSpot 59)).there w1.heap.size 0 24) := hza.there
    obtain ⟨w2, HW2⟩ : ∃ w2, Hid (w2 = (w1.alloc (Obj.cells zeroSpot 59)).setCells w1.heap.size 0 (spotA p ci bi y a7 c7 b am cm u1 u2 u3).toList) := ⟨_, rfl⟩
    have HX2 : Hid (Blk w1.heap.size (spotA p ci bi y a7 c7 b am cm u1 u2 u3) 59 w2) := by
      show Blk _ _ _ _
      rw [HW2.out]
      exact hza.setAll (spotA p ci bi y a7 c7 b am cm u1 u2 u3) rfl
    have hbs : Below w1.heap.size w1 w2 := by
      rw [HW2.out]
      exact below_setCells (Nat.le_refl _) _ _ _ ((Below.refl _ w1).alloc (Nat.le_refl _) _)
    clear hza
    have HZ2 := Hid.intro (HZ1.out.below hbs HZ1.out.lt)
    have HF2 := Hid.intro (HF.out.below hbs)
    have HB2 : Hid (Below w0.heap.size w0 w2) := HB1.out.trans (hbs.mono HB1.out.size)
    clear hbs
    go_upto_region 2 with (first | (refine wpList_store_to rfl 59 _ _ rfl w1.heap.size 0 (spotA p ci bi y a7 c7 b am cm u1 u2 u3) rfl rfl HTS.out isz_Spot (by simp [Value.oneCell']) w2 HW2.out ?_))
    go_wp2_with (first | (refine wpList_load_mid rfl 59 _ rfl w1.heap.size 0 (by first | rfl | (simp [go_sem]; done)) (spotA p ci bi y a7 c7 b am cm u1 u2 u3).toList _ HX2.out.rangeA Tryz.underlying59 rfl isz_Spot ?_))
    refine (score_any p m1 m2 m3 m4 ci bi x a1 c1 a2 c2 a3 c3 y a7 c7 b am cm u1 u2 u3 lo w0 _ HB2.out 0 (by omega) (FoundM.of HF2.out) HP.out HM.out M1.out M3.out S7.out SM.out HV.out HY.out HB.out HU.out).mono ?_
    rintro e w3 ⟨rfl, _, hbt3⟩
    have hb3 : Below w0.heap.size w0 w3 := HB2.out.trans (hbt3.below HB2.out.size HM.out)
    clear hbt3
    have HZ3 := Hid.intro (HZ0.out.below hb3 HZ0.out.lt)
    have HW3 : Hid (Below w.heap.size w w3) := HB0.out.trans (hb3.mono HB0.out.size)
    clear hb3 HX2 HF2 HZ2 HB2
    obtain ⟨v0, hv0⟩ : ∃ v : Int, v = likeTo (fun t => asksI t b.marks b.zone) y.likes y.likes.length := ⟨_, rfl⟩
    obtain ⟨v1, hv1⟩ : ∃ v : Int, v = ((cntTo (znF x ci y.service b.zone) x.copies.length : Nat) : Int) := ⟨_, rfl⟩
    obtain ⟨v2, hv2⟩ : ∃ v : Int, v = ((cntTo (bthF x ci y.service b.name) x.copies.length : Nat) : Int) := ⟨_, rfl⟩
    obtain ⟨v3, hv3⟩ : ∃ v : Int, v = b.room - y.room - roomTo x ci b.name x.copies.length := ⟨_, rfl⟩
    have hsa : scoreA x ci y b = #[.int .i64 v0, .int .i64 v1, .int .i64 v2, .int .i64 v3] := by
      unfold scoreA
      rw [hv0, hv1, hv2, hv3]
    have HSV : Hid (scoreR x cn bn = #[.int .i64 v0, .int .i64 v1, .int .i64 v2, .int .i64 v3]) := HSC.out.trans hsa
    rw [hsa]
    clear hv0 hv1 hv2 hv3 hsa HSC
    have HT := Hid.intro HZ3.out.there
    have hR10 := World.rangeAt_setCells_same w3 (w.heap.size + 1) 0 [.int .i64 v0, .int .i64 v1, .int .i64 v2, .int .i64 v3] HZ3.out.there
    have hB10 : Below w.heap.size w (w3.setCells (w.heap.size + 1) 0 [.int .i64 v0, .int .i64 v1, .int .i64 v2, .int .i64 v3]) := below_setCells (by omega) _ _ _ HW3.out
    obtain ⟨w10, HW10⟩ : ∃ w10, Hid (w10 = w3.setCells (w.heap.size + 1) 0 [.int .i64 v0, .int .i64 v1, .int .i64 v2, .int .i64 v3]) := ⟨_, rfl⟩
    rw [← HW10.out] at hR10 hB10
    have HR10 := Hid.intro hR10
    have HB10 := Hid.intro hB10
    clear hR10 hB10
    go_wp2_with (first | (refine wpList_store_to rfl 29 _ _ rfl (w.heap.size + 1) 0 #[.int .i64 v0, .int .i64 v1, .int .i64 v2, .int .i64 v3] rfl rfl HT.out isz_Score (by simp [Value.oneCell']) w10 HW10.out ?_))
    exact bodyPost_ret (results_cell_mid rfl _ _ (w.heap.size + 1) [.int .i64 v0, .int .i64 v1, .int .i64 v2, .int .i64 v3] _ rfl HR10.out Tryz.underlying29 rfl isz_Score) rfl ⟨by rw [HSV.out], HB10.out⟩

end Go.Proofs.YthndbjhhhdbhpaaGreat

namespace Go.Proofs.YthndbjhhhdbhpaaGreat
open Go.RowKit Go.WideMaps Go.Maps

/-- the eight cells that the last look reads -/
def TwoIn (b b0 : Nat) (x : Flt) (a1 : Option Addr) (c1 : Nat) (a2 : Option Addr) (c2 : Nat) (a3 : Option Addr) (c3 : Nat) (d1 : Option Addr) (e1 : Nat) (d2 : Option Addr) (e2 : Nat) (d3 : Option Addr) (e3 : Nat) (w : World) : Prop :=
  FltIn b x a1 c1 a2 c2 a3 c3 w ∧ FltIn b0 x d1 e1 d2 e2 d3 e3 w

theorem len_b {x : Flt} (h : wFlt x ≤ 1048576) : x.berths.length ≤ 1048576 := by have := wS_len (f := wBrt) (xs := x.berths); unfold wFlt at h; omega
theorem len_s {x : Flt} (h : wFlt x ≤ 1048576) : x.services.length ≤ 1048576 := by have := wS_len (f := wSvc) (xs := x.services); unfold wFlt at h; omega
theorem len_c {x : Flt} (h : wFlt x ≤ 1048576) : x.copies.length ≤ 1048576 := by have := wS_len (f := wCpy) (xs := x.copies); unfold wFlt at h; omega

theorem scoreR_form (x : Flt) (cn bn : ByteArray) : ∃ v0 v1 v2 v3 : Int, scoreR x cn bn = #[.int .i64 v0, .int .i64 v1, .int .i64 v2, .int .i64 v3] := by
  unfold scoreR
  split
  · split
    · split
      · exact ⟨_, _, _, _, rfl⟩
      · exact ⟨_, _, _, _, rfl⟩
    · exact ⟨_, _, _, _, rfl⟩
  · exact ⟨_, _, _, _, rfl⟩

set_option maxHeartbeats 1000000 in
theorem eqScore_any (v0 v1 v2 v3 : Int) (w : World) :
    Calls Tryz.prog 8 #[.agg #[.int .i64 v0, .int .i64 v1, .int .i64 v2, .int .i64 v3], .agg #[.int .i64 v0, .int .i64 v1, .int .i64 v2, .int .i64 v3]] w fun e w' => e = .returned (.bool true) ∧ Below w.heap.size w w' := by
  go_enter Tryz.func8, Tryz.ntmps8
  go_wp2_with fail
  go_ret
  exact ⟨rfl, by go_grown⟩

set_option maxHeartbeats 2000000 in
set_option maxRecDepth 100000 in
theorem law_any (x : Flt) (a1 : Option Addr) (c1 : Nat) (a2 : Option Addr) (c2 : Nat) (a3 : Option Addr) (c3 : Nat) (lo : Nat) (s t : ByteArray) (w : World) (n1 : SliceC BrtC 6 lo w a1 x.berths) (n2 : SliceC SvcC 2 lo w a2 x.services) (n3 : SliceC CpyC 12 lo w a3 x.copies) (hsl : s.size ≤ maxLen) (htl : t.size ≤ maxLen) :
    Calls Tryz.prog 3 #[.agg #[.bool x.pack, .slice a1 x.berths.length c1, .slice a2 x.services.length c2, .slice a3 x.copies.length c3], .string s, .string t] w fun e w' => e = .returned (.bool true) ∧ Below w.heap.size w w' := by
  have N1 : Hid (SliceC BrtC 6 lo w a1 x.berths) := n1
  have N2 : Hid (SliceC SvcC 2 lo w a2 x.services) := n2
  have N3 : Hid (SliceC CpyC 12 lo w a3 x.copies) := n3
  have HSL : Hid (s.size ≤ maxLen) := hsl
  have HTL : Hid (t.size ≤ maxLen) := htl
  unfold maxLen at hsl htl
  clear n1 n2 n3
  by_cases hbig : (1048576 : Int) < s.size
  · go_enter Tryz.func3, Tryz.ntmps3
    go_wp2_with fail
    go_ret
    exact ⟨rfl, by go_grown⟩
  by_cases hbig2 : (1048576 : Int) < t.size
  · go_enter Tryz.func3, Tryz.ntmps3
    go_wp2_with fail
    go_ret
    exact ⟨rfl, by go_grown⟩
  go_enter Tryz.func3, Tryz.ntmps3
  go_wp2_with fail
  refine (szFlt_any x a1 c1 a2 c2 a3 c3 lo 1048576 _ (N1.out.below BrtC.holds (B := w.heap.size) (by go_grown) (Nat.le_refl _)) (N2.out.below SvcC.holds (B := w.heap.size) (by go_grown) (Nat.le_refl _)) (N3.out.below CpyC.holds (B := w.heap.size) (by go_grown) (Nat.le_refl _)) (by omega) (by omega)).mono ?_
  rintro e w1 ⟨rfl, hb1⟩
  have HF1 : Hid (FltIn w.heap.size x a1 c1 a2 c2 a3 c3 w1) := FltIn.below (b := w.heap.size) ⟨by simp, by simp, by simp, by simp⟩ hb1 (by simp)
  have HB1 : Hid (Below w.heap.size w w1) := (show Below w.heap.size w _ by go_grown).trans (hb1.mono (by simp))
  clear hb1
  by_cases hz' : ¬ ((wFlt x : Nat) : Int) ≤ 1048576
  · have hz := hz'
    rw [szR_neg hz]
    go_wp2_with fail
    go_ret
    exact ⟨rfl, HB1.out⟩
  have hz := Classical.not_not.1 hz'
  clear hz'
  rw [szR_pos hz]
  have hwx : wFlt x ≤ 1048576 := by omega
  have HM : Hid (wFlt x ≤ 1048576) := hwx
  have hz0 : (0 : Int) ≤ 1048576 - (wFlt x : Nat) := by omega
  clear hwx hz
  generalize hR : (1048576 : Int) - (wFlt x : Nat) = R at *
  clear hR
  obtain ⟨f0, f1, f2, f3⟩ := HF1.out
  go_wp2_with fail
  refine (toFlt_any x a1 c1 a2 c2 a3 c3 lo _ (N1.out.below BrtC.holds (B := w.heap.size) HB1.out (Nat.le_refl _)) (N2.out.below SvcC.holds (B := w.heap.size) HB1.out (Nat.le_refl _)) (N3.out.below CpyC.holds (B := w.heap.size) HB1.out (Nat.le_refl _)) HM.out).mono ?_
  rintro e w2 ⟨g1, g2, g3, rfl, q1, q2, q3, hb2⟩
  have HF2 : Hid (FltIn w.heap.size x a1 c1 a2 c2 a3 c3 w2) := HF1.out.below hb2 (block_lt_of_cell f0)
  have HB2 : Hid (Below w.heap.size w w2) := HB1.out.trans (hb2.mono HB1.out.size)
  have Q1 : Hid (SliceC BrtC 6 w1.heap.size w2 (some ⟨g1, 0, none⟩) x.berths) := q1
  have Q2 : Hid (SliceC SvcC 2 w1.heap.size w2 (some ⟨g2, 0, none⟩) x.services) := q2
  have Q3 : Hid (SliceC CpyC 12 w1.heap.size w2 (some ⟨g3, 0, none⟩) x.copies) := q3
  clear hb2 q1 q2 q3 f0 f1 f2 f3 HF1 HB1
  go_wp2_with fail
  refine (specScoreOf_any x (some ⟨g1, 0, none⟩) x.berths.length (some ⟨g2, 0, none⟩) x.services.length (some ⟨g3, 0, none⟩) x.copies.length w1.heap.size s t _ Q1.out Q2.out Q3.out (len_b HM.out) (len_s HM.out) (len_c HM.out)).mono ?_
  rintro e w3 ⟨rfl, hb3⟩
  obtain ⟨v0, v1, v2, v3, hsr⟩ := scoreR_form x s t
  have HSR := Hid.intro hsr
  rw [hsr]
  clear hsr
  have HF3 : Hid (FltIn w.heap.size x a1 c1 a2 c2 a3 c3 w3) := HF2.out.below hb3 (block_lt_of_cell HF2.out.1)
  have HB3 : Hid (Below w.heap.size w w3) := HB2.out.trans (hb3.mono HB2.out.size)
  clear hb3 Q1 Q2 Q3 HF2 HB2
  go_upto_region 10 with fail
  have hbA : Below w3.heap.size w3 (w3.alloc (Obj.cells #[.int .i64 v0, .int .i64 v1, .int .i64 v2, .int .i64 v3] 29)) := (Below.refl _ w3).alloc (Nat.le_refl _) _
  have HF3b := Hid.intro (HF3.out.below hbA (block_lt_of_cell HF3.out.1))
  have HB3b : Hid (Below w.heap.size w (w3.alloc (Obj.cells #[.int .i64 v0, .int .i64 v1, .int .i64 v2, .int .i64 v3] 29))) := HB3.out.trans (hbA.mono HB3.out.size)
  have HK3 : Hid (Blk w3.heap.size #[.int .i64 v0, .int .i64 v1, .int .i64 v2, .int .i64 v3] 29 (w3.alloc (Obj.cells #[.int .i64 v0, .int .i64 v1, .int .i64 v2, .int .i64 v3] 29))) := Blk.alloc _ _ _
  obtain ⟨k3, hk3⟩ : ∃ k, k = w3.heap.size := ⟨_, rfl⟩
  generalize w3.alloc (Obj.cells #[.int .i64 v0, .int .i64 v1, .int .i64 v2, .int .i64 v3] 29) = w3b at *
  rw [← hk3] at HK3 ⊢
  clear hbA HF3 HB3 hk3
  clear w3
  obtain ⟨f0, f1, f2, f3⟩ := HF3b.out
  go_wp2_with fail
  refine (toFlt_any x a1 c1 a2 c2 a3 c3 lo _ (N1.out.below BrtC.holds (B := w.heap.size) HB3b.out (Nat.le_refl _)) (N2.out.below SvcC.holds (B := w.heap.size) HB3b.out (Nat.le_refl _)) (N3.out.below CpyC.holds (B := w.heap.size) HB3b.out (Nat.le_refl _)) HM.out).mono ?_
  rintro e w4 ⟨g1, g2, g3, rfl, q1, q2, q3, hb4⟩
  have HF4 : Hid (FltIn w.heap.size x a1 c1 a2 c2 a3 c3 w4) := HF3b.out.below hb4 (block_lt_of_cell f0)
  have HB4 : Hid (Below w.heap.size w w4) := HB3b.out.trans (hb4.mono HB3b.out.size)
  have Q1 : Hid (SliceC BrtC 6 w3b.heap.size w4 (some ⟨g1, 0, none⟩) x.berths) := q1
  have Q2 : Hid (SliceC SvcC 2 w3b.heap.size w4 (some ⟨g2, 0, none⟩) x.services) := q2
  have Q3 : Hid (SliceC CpyC 12 w3b.heap.size w4 (some ⟨g3, 0, none⟩) x.copies) := q3
  have HK4 : Hid (Blk k3 #[.int .i64 v0, .int .i64 v1, .int .i64 v2, .int .i64 v3] 29 w4) := HK3.out.below hb4 HK3.out.lt
  clear HK3
  clear hb4 q1 q2 q3 f0 f1 f2 f3 HF3b HB3b
  go_wp2_with fail
  refine (implScoreOf_any x (some ⟨g1, 0, none⟩) x.berths.length (some ⟨g2, 0, none⟩) x.services.length (some ⟨g3, 0, none⟩) x.copies.length w3b.heap.size s t _ (Q1.out.below BrtC.holds (B := w4.heap.size) (by go_grown) (Nat.le_refl _)) (Q2.out.below SvcC.holds (B := w4.heap.size) (by go_grown) (Nat.le_refl _)) (Q3.out.below CpyC.holds (B := w4.heap.size) (by go_grown) (Nat.le_refl _)) (len_b HM.out) (len_s HM.out) (len_c HM.out) HSL.out HTL.out).mono ?_
  rintro e w5 ⟨rfl, hb5⟩
  have hz4 : w.heap.size < w4.heap.size := block_lt_of_cell HF4.out.1
  have hb45 : Below w4.heap.size w4 w5 := (show Below w4.heap.size w4 _ by go_grown).trans (hb5.mono (by simp))
  have HX5 : Hid (FltIn w4.heap.size x (some ⟨g1, 0, none⟩) x.berths.length (some ⟨g2, 0, none⟩) x.services.length (some ⟨g3, 0, none⟩) x.copies.length w5) := FltIn.below (b := w4.heap.size) ⟨by simp, by simp, by simp, by simp⟩ hb5 (by simp)
  have HF5 : Hid (FltIn w.heap.size x a1 c1 a2 c2 a3 c3 w5) := HF4.out.below hb45 hz4
  have HB5 : Hid (Below w.heap.size w w5) := HB4.out.trans (hb45.mono (by omega))
  have Q1' : Hid (SliceC BrtC 6 w3b.heap.size w5 (some ⟨g1, 0, none⟩) x.berths) := Q1.out.below BrtC.holds hb45 (Nat.le_refl _)
  have Q2' : Hid (SliceC SvcC 2 w3b.heap.size w5 (some ⟨g2, 0, none⟩) x.services) := Q2.out.below SvcC.holds hb45 (Nat.le_refl _)
  have Q3' : Hid (SliceC CpyC 12 w3b.heap.size w5 (some ⟨g3, 0, none⟩) x.copies) := Q3.out.below CpyC.holds hb45 (Nat.le_refl _)
  have HK5 : Hid (Blk k3 #[.int .i64 v0, .int .i64 v1, .int .i64 v2, .int .i64 v3] 29 w5) := HK4.out.below hb45 HK4.out.lt
  rw [HSR.out]
  clear hb5 hb45 HF4 HB4 Q1 Q2 Q3 HK4
  go_upto_region 12 with fail
  have hbB : Below w5.heap.size w5 (w5.alloc (Obj.cells #[.int .i64 v0, .int .i64 v1, .int .i64 v2, .int .i64 v3] 29)) := (Below.refl _ w5).alloc (Nat.le_refl _) _
  have HX5b := Hid.intro (HX5.out.below hbB (block_lt_of_cell HX5.out.1))
  have HF5b := Hid.intro (HF5.out.below hbB (block_lt_of_cell HF5.out.1))
  have HB5b : Hid (Below w.heap.size w (w5.alloc (Obj.cells #[.int .i64 v0, .int .i64 v1, .int .i64 v2, .int .i64 v3] 29))) := HB5.out.trans (hbB.mono HB5.out.size)
  have Q1b := Hid.intro (Q1'.out.below BrtC.holds hbB (Nat.le_refl _))
  have Q2b := Hid.intro (Q2'.out.below SvcC.holds hbB (Nat.le_refl _))
  have Q3b := Hid.intro (Q3'.out.below CpyC.holds hbB (Nat.le_refl _))
  have hk5 : Blk k3 #[.int .i64 v0, .int .i64 v1, .int .i64 v2, .int .i64 v3] 29 (w5.alloc (Obj.cells #[.int .i64 v0, .int .i64 v1, .int .i64 v2, .int .i64 v3] 29)) := HK5.out.below hbB HK5.out.lt
  have hk6 : Blk w5.heap.size #[.int .i64 v0, .int .i64 v1, .int .i64 v2, .int .i64 v3] 29 (w5.alloc (Obj.cells #[.int .i64 v0, .int .i64 v1, .int .i64 v2, .int .i64 v3] 29)) := Blk.alloc _ _ _
  have r0 : (w5.alloc (Obj.cells #[.int .i64 v0, .int .i64 v1, .int .i64 v2, .int .i64 v3] 29)).cell? ⟨k3, 0, none⟩ = some (.int .i64 v0) := hk5.cell rfl
  have r1 : (w5.alloc (Obj.cells #[.int .i64 v0, .int .i64 v1, .int .i64 v2, .int .i64 v3] 29)).cell? ⟨k3, 1, none⟩ = some (.int .i64 v1) := hk5.cell rfl
  have r2 : (w5.alloc (Obj.cells #[.int .i64 v0, .int .i64 v1, .int .i64 v2, .int .i64 v3] 29)).cell? ⟨k3, 2, none⟩ = some (.int .i64 v2) := hk5.cell rfl
  have r3 : (w5.alloc (Obj.cells #[.int .i64 v0, .int .i64 v1, .int .i64 v2, .int .i64 v3] 29)).cell? ⟨k3, 3, none⟩ = some (.int .i64 v3) := hk5.cell rfl
  have d0 : (w5.alloc (Obj.cells #[.int .i64 v0, .int .i64 v1, .int .i64 v2, .int .i64 v3] 29)).cell? ⟨w5.heap.size, 0, none⟩ = some (.int .i64 v0) := hk6.cell rfl
  have d1 : (w5.alloc (Obj.cells #[.int .i64 v0, .int .i64 v1, .int .i64 v2, .int .i64 v3] 29)).cell? ⟨w5.heap.size, 1, none⟩ = some (.int .i64 v1) := hk6.cell rfl
  have d2 : (w5.alloc (Obj.cells #[.int .i64 v0, .int .i64 v1, .int .i64 v2, .int .i64 v3] 29)).cell? ⟨w5.heap.size, 2, none⟩ = some (.int .i64 v2) := hk6.cell rfl
  have d3 : (w5.alloc (Obj.cells #[.int .i64 v0, .int .i64 v1, .int .i64 v2, .int .i64 v3] 29)).cell? ⟨w5.heap.size, 3, none⟩ = some (.int .i64 v3) := hk6.cell rfl
  generalize w5.alloc (Obj.cells #[.int .i64 v0, .int .i64 v1, .int .i64 v2, .int .i64 v3] 29) = w5b at *
  clear hbB hk5 hk6 HK5 HX5 HF5 HB5 Q1' Q2' Q3'
  go_wp2_with fail
  refine (eqScore_any v0 v1 v2 v3 _).mono ?_
  rintro e w5c ⟨rfl, hbC⟩
  have HX5 := Hid.intro (HX5b.out.below hbC (block_lt_of_cell HX5b.out.1))
  have HF5 := Hid.intro (HF5b.out.below hbC (block_lt_of_cell HF5b.out.1))
  have HB5 : Hid (Below w.heap.size w w5c) := HB5b.out.trans (hbC.mono HB5b.out.size)
  have Q1' := Hid.intro (Q1b.out.below BrtC.holds hbC (Nat.le_refl _))
  have Q2' := Hid.intro (Q2b.out.below SvcC.holds hbC (Nat.le_refl _))
  have Q3' := Hid.intro (Q3b.out.below CpyC.holds hbC (Nat.le_refl _))
  clear hbC HX5b HF5b HB5b Q1b Q2b Q3b r0 r1 r2 r3 d0 d1 d2 d3
  go_wp2_with fail
  refine wp_region_held_drew (S := TwoIn w.heap.size w4.heap.size x a1 c1 a2 c2 a3 c3 (some ⟨g1, 0, none⟩) x.berths.length (some ⟨g2, 0, none⟩) x.services.length (some ⟨g3, 0, none⟩) x.copies.length) (by kernel_rfl) ⟨HF5.out, HX5.out⟩ (fun hS => ?_)
  refine wpAnyH_take (i := 0) (oi := { dst := some 37, op := _, type := _, pos := _, after := _, guard := none }) (v := .agg #[.bool x.pack, .slice (some ⟨g1, 0, none⟩) x.berths.length x.berths.length, .slice (some ⟨g2, 0, none⟩) x.services.length x.services.length, .slice (some ⟨g3, 0, none⟩) x.copies.length x.copies.length]) rfl (by kernel_rfl) (by kernel_rfl) (by kernel_rfl) (fun _ _ _ h => h) (Or.inl ⟨by rfl, ?_⟩) hS ?_
  · intro wy hy
    obtain ⟨⟨y0, y1, y2, y3⟩, z0, z1, z2, z3⟩ := hy
    go_simp
  simp only [Act.put, List.setIfInBounds_toArray, List.set_cons_zero, List.set_cons_succ]
  refine wpAnyH_take (i := 1) (oi := { dst := some 38, op := _, type := _, pos := _, after := _, guard := none }) (v := .agg #[.bool x.pack, .slice a1 x.berths.length c1, .slice a2 x.services.length c2, .slice a3 x.copies.length c3]) rfl (by kernel_rfl) (by kernel_rfl) (by kernel_rfl) (fun _ _ _ h => h) (Or.inl ⟨by rfl, ?_⟩) hS ?_
  · intro wy hy
    obtain ⟨⟨y0, y1, y2, y3⟩, z0, z1, z2, z3⟩ := hy
    go_simp
  simp only [Act.put, List.setIfInBounds_toArray, List.set_cons_zero, List.set_cons_succ]
  refine wpAnyH_ready (rs := [2]) (by kernel_rfl) (by simp) (AllReadyH.cons (o := { dst := some 39, op := _, type := _, pos := _, after := _, guard := none }) rfl (fun K hK => ?_) AllReadyH.nil)
  go_simp
  have hd : Below w.heap.size w w5c.drew := HB5.out.drew
  refine (toFlt_any x a1 c1 a2 c2 a3 c3 lo _ (N1.out.below BrtC.holds (B := w.heap.size) hd (Nat.le_refl _)) (N2.out.below SvcC.holds (B := w.heap.size) hd (Nat.le_refl _)) (N3.out.below CpyC.holds (B := w.heap.size) hd (Nat.le_refl _)) HM.out).mono ?_
  rintro e w6 ⟨h1, h2, h3, rfl, q1, q2, q3, hb6⟩
  have hd5 : Below w5c.heap.size w5c w6 := (Below.refl _ w5c).drew.trans hb6
  have HB6 : Hid (Below w.heap.size w w6) := HB5.out.trans (hd5.mono HB5.out.size)
  have P1 : Hid (SliceC BrtC 6 w5c.drew.heap.size w6 (some ⟨h1, 0, none⟩) x.berths) := q1
  have P2 : Hid (SliceC SvcC 2 w5c.drew.heap.size w6 (some ⟨h2, 0, none⟩) x.services) := q2
  have P3 : Hid (SliceC CpyC 12 w5c.drew.heap.size w6 (some ⟨h3, 0, none⟩) x.copies) := q3
  have Q1 : Hid (SliceC BrtC 6 w3b.heap.size w6 (some ⟨g1, 0, none⟩) x.berths) := Q1'.out.below BrtC.holds hd5 (Nat.le_refl _)
  have Q2 : Hid (SliceC SvcC 2 w3b.heap.size w6 (some ⟨g2, 0, none⟩) x.services) := Q2'.out.below SvcC.holds hd5 (Nat.le_refl _)
  have Q3 : Hid (SliceC CpyC 12 w3b.heap.size w6 (some ⟨g3, 0, none⟩) x.copies) := Q3'.out.below CpyC.holds hd5 (Nat.le_refl _)
  refine hK.out _ _ ⟨HF5.out.below hd5 (block_lt_of_cell HF5.out.1), HX5.out.below hd5 (block_lt_of_cell HX5.out.1)⟩ (fun hS => ?_)
  clear q1 q2 q3 hb6 hd5 hd Q1' Q2' Q3'
  clear hK K
  refine wpAnyH_ready (rs := [3]) (by kernel_rfl) (by simp) (AllReadyH.cons (o := { dst := some 40, op := _, type := _, pos := _, after := _, guard := none }) rfl (fun K hK => ?_) AllReadyH.nil)
  go_simp
  refine (eqFlt_any x (some ⟨g1, 0, none⟩) x.berths.length (some ⟨g2, 0, none⟩) x.services.length (some ⟨g3, 0, none⟩) x.copies.length (some ⟨h1, 0, none⟩) x.berths.length (some ⟨h2, 0, none⟩) x.services.length (some ⟨h3, 0, none⟩) x.copies.length w3b.heap.size w5c.drew.heap.size _ Q1.out Q2.out Q3.out P1.out P2.out P3.out HM.out).mono ?_
  rintro e w7 ⟨rfl, hb7⟩
  have HB7 : Hid (Below w.heap.size w w7) := HB6.out.trans (hb7.mono HB6.out.size)
  refine hK.out _ _ ⟨hS.1.below hb7 (block_lt_of_cell hS.1.1), hS.2.below hb7 (block_lt_of_cell hS.2.1)⟩ (fun hS => ?_)
  clear hK K
  refine wpAnyH_take (i := 4) (oi := { dst := some 41, op := _, type := _, pos := _, after := _, guard := none }) (v := .bool false) rfl (by kernel_rfl) (by kernel_rfl) (by kernel_rfl) (fun _ _ _ h => h) (Or.inl ⟨by rfl, ?_⟩) hS ?_
  · intro wy hy
    obtain ⟨⟨y0, y1, y2, y3⟩, z0, z1, z2, z3⟩ := hy
    go_simp
  simp only [Act.put, List.setIfInBounds_toArray, List.set_cons_zero, List.set_cons_succ]
  refine wpAnyH_done (by kernel_rfl) ?_ _
  go_wp2_with fail
  go_ret
  exact ⟨rfl, HB7.out⟩

end Go.Proofs.YthndbjhhhdbhpaaGreat
