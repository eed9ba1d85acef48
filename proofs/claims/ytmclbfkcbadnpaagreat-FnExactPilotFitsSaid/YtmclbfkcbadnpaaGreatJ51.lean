/-
 Several texts in one: Sft, LawF.
-/
import Derived.Test.YtmclbfkcbadnpaaGreatL3s
import Derived.Test.YtmclbfkcbadnpaaGreatSp3
import Derived.Test.YtmclbfkcbadnpaaGreatJ29
import Derived.Test.YtmclbfkcbadnpaaGreatJ46
import Derived.Test.YtmclbfkcbadnpaaGreatJ28
namespace Go.Proofs.YtmclbfkcbadnpaaGreat
open Go.RowKit Go.WideMaps Go.Maps

/-- what the last region reads -/
def SftIn (B : Nat) (x : Flt) (a1 : Option Addr) (c1 : Nat) (a2 : Option Addr) (c2 : Nat) (a3 : Option Addr) (c3 : Nat) (cb co : Nat) (cs : List Value) (bb bo : Nat) (bs : List Value) (w : World) : Prop := FltIn B x a1 c1 a2 c2 a3 c3 w ∧ w.rangeAt cb co cs ∧ w.rangeAt bb bo bs

set_option maxHeartbeats 4000000 in
set_option maxRecDepth 100000 in
theorem specFits_any (x : Flt) (a1 : Option Addr) (c1 : Nat) (a2 : Option Addr) (c2 : Nat) (a3 : Option Addr) (c3 : Nat) (lo : Nat) (cn bn : ByteArray) (w : World) (n1 : SliceC BrtC 6 lo w a1 x.berths) (n2 : SliceC SvcC 2 lo w a2 x.services) (n3 : SliceC CpyC 12 lo w a3 x.copies)
  (l1 : x.berths.length ≤ 1048576) (l2 : x.services.length ≤ 1048576) (l3 : x.copies.length ≤ 1048576) :
  Calls Tryz.prog 7 #[.agg #[.bool x.pack, .slice a1 x.berths.length c1, .slice a2 x.services.length c2, .slice a3 x.copies.length c3], .string cn, .string bn] w fun e w' => e = .returned (.int .i64 (fitsR x cn bn)) ∧ Below w.heap.size w w' := by
 have N1 := Hid.intro n1
 have N2 := Hid.intro n2
 have N3 := Hid.intro n3
 have HE := Hid.intro (valid_eq x l3)
 clear n1 n2 n3
 go_enter Tryz.func7, Tryz.ntmps7
 go_wp2_with fail
 have HF0 : Hid (Blk w.heap.size #[.bool x.pack, .slice a1 x.berths.length c1, .slice a2 x.services.length c2, .slice a3 x.copies.length c3] 33 (w.alloc (Obj.cells #[.bool x.pack, .slice a1 x.berths.length c1, .slice a2 x.services.length c2, .slice a3 x.copies.length c3] 33))) := Blk.alloc w _ _
 have HB0 : Hid (Below w.heap.size w (w.alloc (Obj.cells #[.bool x.pack, .slice a1 x.berths.length c1, .slice a2 x.services.length c2, .slice a3 x.copies.length c3] 33))) := (Below.refl _ w).alloc (Nat.le_refl _) _
 generalize w.alloc (Obj.cells #[.bool x.pack, .slice a1 x.berths.length c1, .slice a2 x.services.length c2, .slice a3 x.copies.length c3] 33) = w0 at *
 refine (l2Copy_any x a1 c1 a2 c2 a3 c3 lo cn _ (N3.out.below CpyC.holds HB0.out (Nat.le_refl _)) l3).mono ?_
 rintro e w1 ⟨rfl, hb1⟩
 have HF1 := Hid.intro (HF0.out.below hb1 HF0.out.lt)
 have HB1 : Hid (Below w.heap.size w w1) := HB0.out.trans (hb1.mono HB0.out.size)
 clear hb1 HF0 HB0
 have f0 : w1.cell? ⟨w.heap.size, 0, none⟩ = some (.bool x.pack) := HF1.out.cell rfl
 have f1 : w1.cell? ⟨w.heap.size, 1, none⟩ = some (.slice a1 x.berths.length c1) := HF1.out.cell rfl
 have f2 : w1.cell? ⟨w.heap.size, 2, none⟩ = some (.slice a2 x.services.length c2) := HF1.out.cell rfl
 have f3 : w1.cell? ⟨w.heap.size, 3, none⟩ = some (.slice a3 x.copies.length c3) := HF1.out.cell rfl
 go_wp2_with fail
 refine (l2Berth_any x a1 c1 a2 c2 a3 c3 lo bn _ (N1.out.below BrtC.holds HB1.out (Nat.le_refl _)) l1).mono ?_
 rintro e w2 ⟨rfl, hb2⟩
 have HF2 := Hid.intro (HF1.out.below hb2 HF1.out.lt)
 have HB2 : Hid (Below w.heap.size w w2) := HB1.out.trans (hb2.mono HB1.out.size)
 clear hb2 HF1 HB1 f0 f1 f2 f3
 have f0 : w2.cell? ⟨w.heap.size, 0, none⟩ = some (.bool x.pack) := HF2.out.cell rfl
 have f1 : w2.cell? ⟨w.heap.size, 1, none⟩ = some (.slice a1 x.berths.length c1) := HF2.out.cell rfl
 have f2 : w2.cell? ⟨w.heap.size, 2, none⟩ = some (.slice a2 x.services.length c2) := HF2.out.cell rfl
 have f3 : w2.cell? ⟨w.heap.size, 3, none⟩ = some (.slice a3 x.copies.length c3) := HF2.out.cell rfl
 go_wp2_with fail
 refine (specValid_any x a1 c1 a2 c2 a3 c3 lo _ (N1.out.below BrtC.holds HB2.out (Nat.le_refl _)) (N2.out.below SvcC.holds HB2.out (Nat.le_refl _)) (N3.out.below CpyC.holds HB2.out (Nat.le_refl _)) l1 l2 l3).mono ?_
 rintro e w3 ⟨rfl, hb3⟩
 have HF3 := Hid.intro (HF2.out.below hb3 HF2.out.lt)
 have HB3 : Hid (Below w.heap.size w w3) := HB2.out.trans (hb3.mono HB2.out.size)
 clear hb3 HF2 HB2 f0 f1 f2 f3
 cases hv : validS x with
 | false =>
  have HS := Hid.intro (fits_none (spot_bad (cn := cn) (bn := bn) (HE.out.trans hv)))
  clear hv
  go_wp2_with fail
  go_ret
  exact ⟨ret_int HS.out.symm, HB3.out⟩
 | true =>
  have HV : Hid (validI x = true) := HE.out.trans hv
  obtain ⟨_, k3, _, hcN, _, _⟩ := valid_parts HV.out
  obtain ⟨k1, hbN, _, _⟩ := valid_more HV.out
  clear hv
  cases hci : lastOf (cpN x) cn x.copies.length with
  | none =>
   have HS := Hid.intro (fits_none (spot_noC (bn := bn) hci))
   rw [idxC_no hci]
   clear hci hcN hbN
   go_wp2_with fail
   go_ret
   exact ⟨ret_int HS.out.symm, HB3.out⟩
  | some ci =>
   obtain ⟨hic, y, hy, hyn⟩ := idxC_some hcN hci
   clear hyn
   rw [hic]
   cases hbi : lastOf (brN x) bn x.berths.length with
   | none =>
    have HS := Hid.intro (fits_none (spot_noB (cn := cn) hbi))
    rw [idxB_no hbi]
    clear hci hcN hbN hbi hy hic
    go_wp2_with fail
    go_ret
    exact ⟨ret_int HS.out.symm, HB3.out⟩
   | some bi =>
    obtain ⟨hib, b, hb, hbn⟩ := idxB_some hbN hbi
    clear hbn
    rw [hib]
    have HS := Hid.intro (fits_some (spot_yes HV.out hci hbi) hy hb)
    have HY := Hid.intro hy
    have HBY := Hid.intro hb
    have hcl : ci < x.copies.length := lt_of_some hy
    have hbl : bi < x.berths.length := lt_of_some hb
    obtain ⟨cb, co, rfl, _, hcbl, hcc⟩ := (N3.out.below CpyC.holds HB3.out (Nat.le_refl _)).at hy
    obtain ⟨a7, c7, q0, q1, q2, q3, q4, q5, q6, q7, q8, q9, q10, q11, z0, z1, z6, z9, z10, z11, z7⟩ := hcc
    obtain ⟨bb, bo, rfl, _, hbbl, hbc⟩ := (N1.out.below BrtC.holds HB3.out (Nat.le_refl _)).at hb
    obtain ⟨am, cm, t0, t1, t2, t3, t4, t5, _, _, nM⟩ := hbc
    simp only [Nat.add_zero] at q0 t0
    have HRC : Hid (w3.rangeAt cb (co + ci * 12) [.string y.name, .string y.service, .int .i64 y.rank, .int .i64 y.born, .int .i64 y.room, .int .i64 y.hold, .string y.select, .slice a7 y.likes.length c7, .int .i64 y.apart, .string y.near, .string y.fixed, .string y.at_]) := range_cons q0 (range_cons q1 (range_cons q2 (range_cons q3 (range_cons q4 (range_cons q5 (range_cons q6 (range_cons q7 (range_cons q8 (range_cons q9 (range_cons q10 (range_cons q11 (range_nil _ _ _))))))))))))
    have HRB : Hid (w3.rangeAt bb (bo + bi * 6) [.string b.name, .string b.zone, .slice am b.marks.length cm, .int .i64 b.room, .int .i64 b.hold, .bool b.closed]) := range_cons t0 (range_cons t1 (range_cons t2 (range_cons t3 (range_cons t4 (range_cons t5 (range_nil _ _ _))))))
    have Z6 := Hid.intro z6
    have NM := Hid.intro nM
    have HCB : Hid (cb < w3.heap.size) := hcbl
    have HBB : Hid (bb < w3.heap.size) := hbbl
    have hsz : w.heap.size < w3.heap.size := HF3.out.lt
    have HFI : Hid (FltIn w.heap.size x (some ⟨bb, bo, none⟩) c1 a2 c2 (some ⟨cb, co, none⟩) c3 w3) := ⟨HF3.out.cell rfl, HF3.out.cell rfl, HF3.out.cell rfl, HF3.out.cell rfl⟩
    clear hci hbi hcN hbN hy hb hic hib q0 q1 q2 q3 q4 q5 q6 q7 q8 q9 q10 q11 z0 z1 z6 z9 z10 z11 z7 t0 t1 t2 t3 t4 t5 nM hcbl hbbl
    go_upto_region 5 with fail
    refine wp_region_held_drew (S := SftIn w.heap.size x (some ⟨bb, bo, none⟩) c1 a2 c2 (some ⟨cb, co, none⟩) c3 cb (co + ci * 12) [.string y.name, .string y.service, .int .i64 y.rank, .int .i64 y.born, .int .i64 y.room, .int .i64 y.hold, .string y.select, .slice a7 y.likes.length c7, .int .i64 y.apart, .string y.near, .string y.fixed, .string y.at_] bb (bo + bi * 6) [.string b.name, .string b.zone, .slice am b.marks.length cm, .int .i64 b.room, .int .i64 b.hold, .bool b.closed]) (by kernel_rfl) ⟨HFI.out.drewS, range_drew HRC.out, range_drew HRB.out⟩ (fun hS => ?_)
    refine wpAnyH_take (i := 0) (oi := { dst := some 26, op := _, type := _, pos := _, after := _, guard := none }) (v := .agg #[.bool x.pack, .slice (some ⟨bb, bo, none⟩) x.berths.length c1, .slice a2 x.services.length c2, .slice (some ⟨cb, co, none⟩) x.copies.length c3]) rfl (by kernel_rfl) (by kernel_rfl) (by kernel_rfl) (fun _ _ _ h => h) (Or.inl ⟨by rfl, ?_⟩) hS ?_
    ·intro wy hy
     obtain ⟨⟨y0, y1, y2, y3⟩, yr, yb⟩ := hy
     go_simp
    simp only [Act.put, List.setIfInBounds_toArray, List.set_cons_zero, List.set_cons_succ]
    refine wpAnyH_take (i := 1) (oi := { dst := some 27, op := _, type := _, pos := _, after := _, guard := none }) (v := .pointer (some ⟨w.heap.size, 3, none⟩)) rfl (by kernel_rfl) (by kernel_rfl) (by kernel_rfl) (fun _ _ _ h => h) (Or.inl ⟨by rfl, ?_⟩) hS ?_
    ·intro wy hy
     obtain ⟨⟨y0, y1, y2, y3⟩, yr, yb⟩ := hy
     go_simp
    simp only [Act.put, List.setIfInBounds_toArray, List.set_cons_zero, List.set_cons_succ]
    refine wpAnyH_take (i := 2) (oi := { dst := some 28, op := _, type := _, pos := _, after := _, guard := none }) (v := .slice (some ⟨cb, co, none⟩) x.copies.length c3) rfl (by kernel_rfl) (by kernel_rfl) (by kernel_rfl) (fun _ _ _ h => h) (Or.inl ⟨by rfl, ?_⟩) hS ?_
    ·intro wy hy
     obtain ⟨⟨y0, y1, y2, y3⟩, yr, yb⟩ := hy
     go_simp
    simp only [Act.put, List.setIfInBounds_toArray, List.set_cons_zero, List.set_cons_succ]
    refine wpAnyH_take (i := 3) (oi := { dst := some 29, op := _, type := _, pos := _, after := _, guard := none }) (v := .int .i64 (ci : Int)) rfl (by kernel_rfl) (by kernel_rfl) (by kernel_rfl) (fun _ _ _ h => h) (Or.inl ⟨by rfl, ?_⟩) hS ?_
    ·intro wy hy
     obtain ⟨⟨y0, y1, y2, y3⟩, yr, yb⟩ := hy
     go_simp
    simp only [Act.put, List.setIfInBounds_toArray, List.set_cons_zero, List.set_cons_succ]
    refine wpAnyH_take (i := 4) (oi := { dst := some 30, op := _, type := _, pos := _, after := _, guard := none }) (v := .pointer (some ⟨cb, co + ci * 12, none⟩)) rfl (by kernel_rfl) (by kernel_rfl) (by kernel_rfl) (fun _ _ _ h => h) (Or.inl ⟨by rfl, ?_⟩) hS ?_
    ·intro wy hy
     obtain ⟨⟨y0, y1, y2, y3⟩, yr, yb⟩ := hy
     go_simp
    simp only [Act.put, List.setIfInBounds_toArray, List.set_cons_zero, List.set_cons_succ]
    refine wpAnyH_take (i := 5) (oi := { dst := some 31, op := _, type := _, pos := _, after := _, guard := none }) (v := .agg #[.string y.name, .string y.service, .int .i64 y.rank, .int .i64 y.born, .int .i64 y.room, .int .i64 y.hold, .string y.select, .slice a7 y.likes.length c7, .int .i64 y.apart, .string y.near, .string y.fixed, .string y.at_]) rfl (by kernel_rfl) (by kernel_rfl) (by kernel_rfl) (fun _ _ _ h => h) (yieldsIf_load_mid rfl 53 (.tmp 30) rfl cb (co + ci * 12) rfl [.string y.name, .string y.service, .int .i64 y.rank, .int .i64 y.born, .int .i64 y.room, .int .i64 y.hold, .string y.select, .slice a7 y.likes.length c7, .int .i64 y.apart, .string y.near, .string y.fixed, .string y.at_] _ (fun _ h => h.2.1) Tryz.underlying53 rfl isz_Cpy) hS ?_
    simp only [Act.put, List.setIfInBounds_toArray, List.set_cons_zero, List.set_cons_succ]
    refine wpAnyH_take (i := 6) (oi := { dst := some 32, op := _, type := _, pos := _, after := _, guard := none }) (v := .pointer (some ⟨w.heap.size, 1, none⟩)) rfl (by kernel_rfl) (by kernel_rfl) (by kernel_rfl) (fun _ _ _ h => h) (Or.inl ⟨by rfl, ?_⟩) hS ?_
    ·intro wy hy
     obtain ⟨⟨y0, y1, y2, y3⟩, yr, yb⟩ := hy
     go_simp
    simp only [Act.put, List.setIfInBounds_toArray, List.set_cons_zero, List.set_cons_succ]
    refine wpAnyH_take (i := 7) (oi := { dst := some 33, op := _, type := _, pos := _, after := _, guard := none }) (v := .slice (some ⟨bb, bo, none⟩) x.berths.length c1) rfl (by kernel_rfl) (by kernel_rfl) (by kernel_rfl) (fun _ _ _ h => h) (Or.inl ⟨by rfl, ?_⟩) hS ?_
    ·intro wy hy
     obtain ⟨⟨y0, y1, y2, y3⟩, yr, yb⟩ := hy
     go_simp
    simp only [Act.put, List.setIfInBounds_toArray, List.set_cons_zero, List.set_cons_succ]
    refine wpAnyH_take (i := 8) (oi := { dst := some 34, op := _, type := _, pos := _, after := _, guard := none }) (v := .int .i64 (bi : Int)) rfl (by kernel_rfl) (by kernel_rfl) (by kernel_rfl) (fun _ _ _ h => h) (Or.inl ⟨by rfl, ?_⟩) hS ?_
    ·intro wy hy
     obtain ⟨⟨y0, y1, y2, y3⟩, yr, yb⟩ := hy
     go_simp
    simp only [Act.put, List.setIfInBounds_toArray, List.set_cons_zero, List.set_cons_succ]
    refine wpAnyH_take (i := 9) (oi := { dst := some 35, op := _, type := _, pos := _, after := _, guard := none }) (v := .pointer (some ⟨bb, bo + bi * 6, none⟩)) rfl (by kernel_rfl) (by kernel_rfl) (by kernel_rfl) (fun _ _ _ h => h) (Or.inl ⟨by rfl, ?_⟩) hS ?_
    ·intro wy hy
     obtain ⟨⟨y0, y1, y2, y3⟩, yr, yb⟩ := hy
     go_simp
    simp only [Act.put, List.setIfInBounds_toArray, List.set_cons_zero, List.set_cons_succ]
    refine wpAnyH_take (i := 10) (oi := { dst := some 36, op := _, type := _, pos := _, after := _, guard := none }) (v := .agg #[.string b.name, .string b.zone, .slice am b.marks.length cm, .int .i64 b.room, .int .i64 b.hold, .bool b.closed]) rfl (by kernel_rfl) (by kernel_rfl) (by kernel_rfl) (fun _ _ _ h => h) (yieldsIf_load_mid rfl 55 (.tmp 35) rfl bb (bo + bi * 6) rfl [.string b.name, .string b.zone, .slice am b.marks.length cm, .int .i64 b.room, .int .i64 b.hold, .bool b.closed] _ (fun _ h => h.2.2) Tryz.underlying55 rfl isz_Brt) hS ?_
    simp only [Act.put, List.setIfInBounds_toArray, List.set_cons_zero, List.set_cons_succ]
    refine wpAnyH_ready (rs := [11]) (by kernel_rfl) (by simp) (AllReadyH.cons (o := { dst := some 37, op := _, type := _, pos := _, after := _, guard := none }) rfl (fun K hK => ?_) AllReadyH.nil)
    go_simp
    have hd : Below w.heap.size w w3.drew := HB3.out.drew
    have hd3 : Below w3.heap.size w3 w3.drew := (Below.refl w3.heap.size w3).drew
    have H1 : SliceC BrtC 6 lo w3.drew (some ⟨bb, bo, none⟩) x.berths := N1.out.below BrtC.holds hd (Nat.le_refl _)
    have H2 : SliceC CpyC 12 lo w3.drew (some ⟨cb, co, none⟩) x.copies := N3.out.below CpyC.holds hd (Nat.le_refl _)
    have H4 : SliceC StrC 1 lo w3.drew am b.marks := NM.out.below StrC.holds hd3 (Nat.le_refl _)
    have HC := l3Fits_any lo ci bi x (some ⟨bb, bo, none⟩) c1 a2 c2 (some ⟨cb, co, none⟩) c3 y a7 c7 b am cm false w3.drew H1 H2 H4 HY.out HBY.out HV.out Z6.out
    clear H1 H2 H4 hd3
    refine HC.mono ?_
    rintro e w4 ⟨rfl, hb4⟩
    have hd4 : Below w3.heap.size w3 w4 := (Below.refl _ w3).drew.trans hb4
    have HB4 : Hid (Below w.heap.size w w4) := HB3.out.trans (hd4.mono HB3.out.size)
    rw [← HS.out]
    refine hK.out _ _ ⟨HFI.out.below hd4 (by omega), range_belowV HRC.out hd4 HCB.out, range_belowV HRB.out hd4 HBB.out⟩ (fun hS => ?_)
    clear hK K hb4 hd hd4
    refine wpAnyH_take (i := 12) (oi := { dst := some 6, op := _, type := _, pos := _, after := _, guard := none }) (v := .int .i64 (fitsR x cn bn)) rfl (by kernel_rfl) (by kernel_rfl) (by kernel_rfl) (fun _ _ _ h => h) (Or.inl ⟨by rfl, ?_⟩) hS ?_
    ·intro wy hy
     clear hy
     go_simp
    simp only [Act.put, List.setIfInBounds_toArray, List.set_cons_zero, List.set_cons_succ]
    refine wpAnyH_done (by kernel_rfl) ?_ _
    clear hS
    go_wp2_with fail
    go_ret
    exact ⟨rfl, HB4.out⟩

end Go.Proofs.YtmclbfkcbadnpaaGreat

namespace Go.Proofs.YtmclbfkcbadnpaaGreat
open Go.RowKit Go.WideMaps Go.Maps

/-- the eight cells that the last look reads -/
def TwoIn (b b0 : Nat) (x : Flt) (a1 : Option Addr) (c1 : Nat) (a2 : Option Addr) (c2 : Nat) (a3 : Option Addr) (c3 : Nat) (d1 : Option Addr) (e1 : Nat) (d2 : Option Addr) (e2 : Nat) (d3 : Option Addr) (e3 : Nat) (w : World) : Prop :=
 FltIn b x a1 c1 a2 c2 a3 c3 w ∧ FltIn b0 x d1 e1 d2 e2 d3 e3 w

theorem len_b {x : Flt} (h : wFlt x ≤ 1048576) : x.berths.length ≤ 1048576 := by have := wS_len (f := wBrt) (xs := x.berths); unfold wFlt at h; omega
theorem len_s {x : Flt} (h : wFlt x ≤ 1048576) : x.services.length ≤ 1048576 := by have := wS_len (f := wSvc) (xs := x.services); unfold wFlt at h; omega
theorem len_c {x : Flt} (h : wFlt x ≤ 1048576) : x.copies.length ≤ 1048576 := by have := wS_len (f := wCpy) (xs := x.copies); unfold wFlt at h; omega

set_option maxHeartbeats 2000000 in
set_option maxRecDepth 100000 in
theorem law_any (x : Flt) (a1 : Option Addr) (c1 : Nat) (a2 : Option Addr) (c2 : Nat) (a3 : Option Addr) (c3 : Nat) (lo : Nat) (s t : ByteArray) (w : World) (n1 : SliceC BrtC 6 lo w a1 x.berths) (n2 : SliceC SvcC 2 lo w a2 x.services) (n3 : SliceC CpyC 12 lo w a3 x.copies) (hsl : s.size ≤ maxLen) (htl : t.size ≤ maxLen) :
  Calls Tryz.prog 3 #[.agg #[.bool x.pack, .slice a1 x.berths.length c1, .slice a2 x.services.length c2, .slice a3 x.copies.length c3], .string s, .string t] w fun e w' => e = .returned (.bool true) ∧ Below w.heap.size w w' := by
 have N1 : Hid (SliceC BrtC 6 lo w a1 x.berths) := n1
 have N2 : Hid (SliceC SvcC 2 lo w a2 x.services) := n2
 have N3 : Hid (SliceC CpyC 12 lo w a3 x.copies) := n3
 have HSL : Hid (s.size ≤ maxLen) := hsl
 have HTL : Hid (t.size ≤ maxLen) := htl
 unfold maxLen at hsl htl
 clear n1 n2 n3
 by_cases hbig : (1048576 : Int) < s.size
 ·go_enter Tryz.func3, Tryz.ntmps3
  go_wp2_with fail
  go_ret
  exact ⟨rfl, by go_grown⟩
 by_cases hbig2 : (1048576 : Int) < t.size
 ·go_enter Tryz.func3, Tryz.ntmps3
  go_wp2_with fail
  go_ret
  exact ⟨rfl, by go_grown⟩
 go_enter Tryz.func3, Tryz.ntmps3
 go_wp2_with fail
 refine (szFlt_any x a1 c1 a2 c2 a3 c3 lo 1048576 _ (N1.out.below BrtC.holds (B := w.heap.size) (by go_grown) (Nat.le_refl _)) (N2.out.below SvcC.holds (B := w.heap.size) (by go_grown) (Nat.le_refl _)) (N3.out.below CpyC.holds (B := w.heap.size) (by go_grown) (Nat.le_refl _)) (by omega) (by omega)).mono ?_
 rintro e w1 ⟨rfl, hb1⟩
 have HF1 : Hid (FltIn w.heap.size x a1 c1 a2 c2 a3 c3 w1) := FltIn.below (b := w.heap.size) ⟨by simp, by simp, by simp, by simp⟩ hb1 (by simp)
 have HB1 : Hid (Below w.heap.size w w1) := (show Below w.heap.size w _ by go_grown).trans (hb1.mono (by simp))
 clear hb1
 by_cases hz' : ¬ ((wFlt x : Nat) : Int) ≤ 1048576
 ·have hz := hz'
  rw [szR_neg hz]
  go_wp2_with fail
  go_ret
  exact ⟨rfl, HB1.out⟩
 have hz := Classical.not_not.1 hz'
 clear hz'
 rw [szR_pos hz]
 have hwx : wFlt x ≤ 1048576 := by omega
 have HM : Hid (wFlt x ≤ 1048576) := hwx
 have hz0 : (0 : Int) ≤ 1048576 - (wFlt x : Nat) := by omega
 clear hwx hz
 generalize hR : (1048576 : Int) - (wFlt x : Nat) = R at *
 clear hR
 obtain ⟨f0, f1, f2, f3⟩ := HF1.out
 go_wp2_with fail
 refine (toFlt_any x a1 c1 a2 c2 a3 c3 lo _ (N1.out.below BrtC.holds (B := w.heap.size) HB1.out (Nat.le_refl _)) (N2.out.below SvcC.holds (B := w.heap.size) HB1.out (Nat.le_refl _)) (N3.out.below CpyC.holds (B := w.heap.size) HB1.out (Nat.le_refl _)) HM.out).mono ?_
 rintro e w2 ⟨g1, g2, g3, rfl, q1, q2, q3, hb2⟩
 have HF2 : Hid (FltIn w.heap.size x a1 c1 a2 c2 a3 c3 w2) := HF1.out.below hb2 (block_lt_of_cell f0)
 have HB2 : Hid (Below w.heap.size w w2) := HB1.out.trans (hb2.mono HB1.out.size)
 have Q1 : Hid (SliceC BrtC 6 w1.heap.size w2 (some ⟨g1, 0, none⟩) x.berths) := q1
 have Q2 : Hid (SliceC SvcC 2 w1.heap.size w2 (some ⟨g2, 0, none⟩) x.services) := q2
 have Q3 : Hid (SliceC CpyC 12 w1.heap.size w2 (some ⟨g3, 0, none⟩) x.copies) := q3
 clear hb2 q1 q2 q3 f0 f1 f2 f3 HF1 HB1
 go_wp2_with fail
 refine (specFits_any x (some ⟨g1, 0, none⟩) x.berths.length (some ⟨g2, 0, none⟩) x.services.length (some ⟨g3, 0, none⟩) x.copies.length w1.heap.size s t _ Q1.out Q2.out Q3.out (len_b HM.out) (len_s HM.out) (len_c HM.out)).mono ?_
 rintro e w3 ⟨rfl, hb3⟩
 have HF3 : Hid (FltIn w.heap.size x a1 c1 a2 c2 a3 c3 w3) := HF2.out.below hb3 (block_lt_of_cell HF2.out.1)
 have HB3 : Hid (Below w.heap.size w w3) := HB2.out.trans (hb3.mono HB2.out.size)
 clear hb3 Q1 Q2 Q3 HF2 HB2
 obtain ⟨f0, f1, f2, f3⟩ := HF3.out
 go_wp2_with fail
 refine (toFlt_any x a1 c1 a2 c2 a3 c3 lo _ (N1.out.below BrtC.holds (B := w.heap.size) HB3.out (Nat.le_refl _)) (N2.out.below SvcC.holds (B := w.heap.size) HB3.out (Nat.le_refl _)) (N3.out.below CpyC.holds (B := w.heap.size) HB3.out (Nat.le_refl _)) HM.out).mono ?_
 rintro e w4 ⟨g1, g2, g3, rfl, q1, q2, q3, hb4⟩
 have HF4 : Hid (FltIn w.heap.size x a1 c1 a2 c2 a3 c3 w4) := HF3.out.below hb4 (block_lt_of_cell f0)
 have HB4 : Hid (Below w.heap.size w w4) := HB3.out.trans (hb4.mono HB3.out.size)
 have Q1 : Hid (SliceC BrtC 6 w3.heap.size w4 (some ⟨g1, 0, none⟩) x.berths) := q1
 have Q2 : Hid (SliceC SvcC 2 w3.heap.size w4 (some ⟨g2, 0, none⟩) x.services) := q2
 have Q3 : Hid (SliceC CpyC 12 w3.heap.size w4 (some ⟨g3, 0, none⟩) x.copies) := q3
 clear hb4 q1 q2 q3 f0 f1 f2 f3 HF3 HB3
 go_wp2_with fail
 refine (implFits_any x (some ⟨g1, 0, none⟩) x.berths.length (some ⟨g2, 0, none⟩) x.services.length (some ⟨g3, 0, none⟩) x.copies.length w3.heap.size s t _ (Q1.out.below BrtC.holds (B := w4.heap.size) (by go_grown) (Nat.le_refl _)) (Q2.out.below SvcC.holds (B := w4.heap.size) (by go_grown) (Nat.le_refl _)) (Q3.out.below CpyC.holds (B := w4.heap.size) (by go_grown) (Nat.le_refl _)) (len_b HM.out) (len_s HM.out) (len_c HM.out) HSL.out HTL.out).mono ?_
 rintro e w5 ⟨rfl, hb5⟩
 have hz4 : w.heap.size < w4.heap.size := block_lt_of_cell HF4.out.1
 have hb45 : Below w4.heap.size w4 w5 := (show Below w4.heap.size w4 _ by go_grown).trans (hb5.mono (by simp))
 have HX5 : Hid (FltIn w4.heap.size x (some ⟨g1, 0, none⟩) x.berths.length (some ⟨g2, 0, none⟩) x.services.length (some ⟨g3, 0, none⟩) x.copies.length w5) := FltIn.below (b := w4.heap.size) ⟨by simp, by simp, by simp, by simp⟩ hb5 (by simp)
 have HF5 : Hid (FltIn w.heap.size x a1 c1 a2 c2 a3 c3 w5) := HF4.out.below hb45 hz4
 have HB5 : Hid (Below w.heap.size w w5) := HB4.out.trans (hb45.mono (by omega))
 have Q1' : Hid (SliceC BrtC 6 w3.heap.size w5 (some ⟨g1, 0, none⟩) x.berths) := Q1.out.below BrtC.holds hb45 (Nat.le_refl _)
 have Q2' : Hid (SliceC SvcC 2 w3.heap.size w5 (some ⟨g2, 0, none⟩) x.services) := Q2.out.below SvcC.holds hb45 (Nat.le_refl _)
 have Q3' : Hid (SliceC CpyC 12 w3.heap.size w5 (some ⟨g3, 0, none⟩) x.copies) := Q3.out.below CpyC.holds hb45 (Nat.le_refl _)
 clear hb5 hb45 HF4 HB4 Q1 Q2 Q3
 generalize fitsR x s t = U at *
 go_wp2_with fail
 refine wp_region_held_drew (S := TwoIn w.heap.size w4.heap.size x a1 c1 a2 c2 a3 c3 (some ⟨g1, 0, none⟩) x.berths.length (some ⟨g2, 0, none⟩) x.services.length (some ⟨g3, 0, none⟩) x.copies.length) (by kernel_rfl) ⟨HF5.out, HX5.out⟩ (fun hS => ?_)
 refine wpAnyH_take (i := 0) (oi := { dst := some 36, op := _, type := _, pos := _, after := _, guard := none }) (v := .agg #[.bool x.pack, .slice (some ⟨g1, 0, none⟩) x.berths.length x.berths.length, .slice (some ⟨g2, 0, none⟩) x.services.length x.services.length, .slice (some ⟨g3, 0, none⟩) x.copies.length x.copies.length]) rfl (by kernel_rfl) (by kernel_rfl) (by kernel_rfl) (fun _ _ _ h => h) (Or.inl ⟨by rfl, ?_⟩) hS ?_
 ·intro wy hy
  obtain ⟨⟨y0, y1, y2, y3⟩, v0, v1, v2, v3⟩ := hy
  go_simp
 simp only [Act.put, List.setIfInBounds_toArray, List.set_cons_zero, List.set_cons_succ]
 refine wpAnyH_take (i := 1) (oi := { dst := some 37, op := _, type := _, pos := _, after := _, guard := none }) (v := .agg #[.bool x.pack, .slice a1 x.berths.length c1, .slice a2 x.services.length c2, .slice a3 x.copies.length c3]) rfl (by kernel_rfl) (by kernel_rfl) (by kernel_rfl) (fun _ _ _ h => h) (Or.inl ⟨by rfl, ?_⟩) hS ?_
 ·intro wy hy
  obtain ⟨⟨y0, y1, y2, y3⟩, v0, v1, v2, v3⟩ := hy
  go_simp
 simp only [Act.put, List.setIfInBounds_toArray, List.set_cons_zero, List.set_cons_succ]
 refine wpAnyH_ready (rs := [2]) (by kernel_rfl) (by simp) (AllReadyH.cons (o := { dst := some 38, op := _, type := _, pos := _, after := _, guard := none }) rfl (fun K hK => ?_) AllReadyH.nil)
 go_simp
 have hd : Below w.heap.size w w5.drew := HB5.out.drew
 refine (toFlt_any x a1 c1 a2 c2 a3 c3 lo _ (N1.out.below BrtC.holds (B := w.heap.size) hd (Nat.le_refl _)) (N2.out.below SvcC.holds (B := w.heap.size) hd (Nat.le_refl _)) (N3.out.below CpyC.holds (B := w.heap.size) hd (Nat.le_refl _)) HM.out).mono ?_
 rintro e w6 ⟨h1, h2, h3, rfl, q1, q2, q3, hb6⟩
 have hd5 : Below w5.heap.size w5 w6 := (Below.refl _ w5).drew.trans hb6
 have HB6 : Hid (Below w.heap.size w w6) := HB5.out.trans (hd5.mono HB5.out.size)
 have P1 : Hid (SliceC BrtC 6 w5.drew.heap.size w6 (some ⟨h1, 0, none⟩) x.berths) := q1
 have P2 : Hid (SliceC SvcC 2 w5.drew.heap.size w6 (some ⟨h2, 0, none⟩) x.services) := q2
 have P3 : Hid (SliceC CpyC 12 w5.drew.heap.size w6 (some ⟨h3, 0, none⟩) x.copies) := q3
 have Q1 : Hid (SliceC BrtC 6 w3.heap.size w6 (some ⟨g1, 0, none⟩) x.berths) := Q1'.out.below BrtC.holds hd5 (Nat.le_refl _)
 have Q2 : Hid (SliceC SvcC 2 w3.heap.size w6 (some ⟨g2, 0, none⟩) x.services) := Q2'.out.below SvcC.holds hd5 (Nat.le_refl _)
 have Q3 : Hid (SliceC CpyC 12 w3.heap.size w6 (some ⟨g3, 0, none⟩) x.copies) := Q3'.out.below CpyC.holds hd5 (Nat.le_refl _)
 refine hK.out _ _ ⟨HF5.out.below hd5 (block_lt_of_cell HF5.out.1), HX5.out.below hd5 (block_lt_of_cell HX5.out.1)⟩ (fun hS => ?_)
 clear q1 q2 q3 hb6 hd5 hd Q1' Q2' Q3'
 clear hK K
 refine wpAnyH_ready (rs := [3]) (by kernel_rfl) (by simp) (AllReadyH.cons (o := { dst := some 39, op := _, type := _, pos := _, after := _, guard := none }) rfl (fun K hK => ?_) AllReadyH.nil)
 go_simp
 refine (eqFlt_any x (some ⟨g1, 0, none⟩) x.berths.length (some ⟨g2, 0, none⟩) x.services.length (some ⟨g3, 0, none⟩) x.copies.length (some ⟨h1, 0, none⟩) x.berths.length (some ⟨h2, 0, none⟩) x.services.length (some ⟨h3, 0, none⟩) x.copies.length w3.heap.size w5.drew.heap.size _ Q1.out Q2.out Q3.out P1.out P2.out P3.out HM.out).mono ?_
 rintro e w7 ⟨rfl, hb7⟩
 have HB7 : Hid (Below w.heap.size w w7) := HB6.out.trans (hb7.mono HB6.out.size)
 refine hK.out _ _ ⟨hS.1.below hb7 (block_lt_of_cell hS.1.1), hS.2.below hb7 (block_lt_of_cell hS.2.1)⟩ (fun hS => ?_)
 clear hK K
 refine wpAnyH_take (i := 4) (oi := { dst := some 40, op := _, type := _, pos := _, after := _, guard := none }) (v := .bool false) rfl (by kernel_rfl) (by kernel_rfl) (by kernel_rfl) (fun _ _ _ h => h) (Or.inl ⟨by rfl, ?_⟩) hS ?_
 ·intro wy hy
  obtain ⟨⟨y0, y1, y2, y3⟩, v0, v1, v2, v3⟩ := hy
  go_simp
 simp only [Act.put, List.setIfInBounds_toArray, List.set_cons_zero, List.set_cons_succ]
 refine wpAnyH_done (by kernel_rfl) ?_ _
 go_wp2_with fail
 go_ret
 exact ⟨rfl, HB7.out⟩

end Go.Proofs.YtmclbfkcbadnpaaGreat
