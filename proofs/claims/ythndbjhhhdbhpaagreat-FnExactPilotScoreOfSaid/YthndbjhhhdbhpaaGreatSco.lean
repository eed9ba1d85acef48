/-
  The score of a berth for a copy: its value; PilotScoreOf of the specification (made by mksco.py).
-/
import Derived.Test.YthndbjhhhdbhpaaGreatL4s
import Derived.Test.YthndbjhhhdbhpaaGreatEqa
import Derived.Test.YthndbjhhhdbhpaaGreatSp3
import Derived.Test.YthndbjhhhdbhpaaGreatSpt
namespace Go.Proofs.YthndbjhhhdbhpaaGreat
open Go.RowKit Go.WideMaps Go.Maps

def scoreA (x : Flt) (ci : Nat) (y : Cpy) (b : Brt) : Array Value := #[.int .i64 (likeTo (fun t => asksI t b.marks b.zone) y.likes y.likes.length), .int .i64 ((cntTo (znF x ci y.service b.zone) x.copies.length : Nat) : Int), .int .i64 ((cntTo (bthF x ci y.service b.name) x.copies.length : Nat) : Int), .int .i64 (b.room - y.room - roomTo x ci b.name x.copies.length)]

abbrev zeroA : Array Value := #[.int .i64 0, .int .i64 0, .int .i64 0, .int .i64 0]

/-- the score, or nothing -/
def scoreR (x : Flt) (cn bn : ByteArray) : Array Value := if validI x = true then (match lastOf (cpN x) cn x.copies.length, lastOf (brN x) bn x.berths.length with
  | some ci, some bi => (match x.copies[ci]?, x.berths[bi]? with
    | some y, some b => scoreA x ci y b
    | _, _ => zeroA)
  | _, _ => zeroA) else zeroA

theorem score_bad {x : Flt} {cn bn : ByteArray} (h : validI x = false) : scoreR x cn bn = zeroA := by
  unfold scoreR
  rw [if_neg (by rw [h]; decide)]

theorem score_noC {x : Flt} {cn bn : ByteArray} (h : lastOf (cpN x) cn x.copies.length = none) : scoreR x cn bn = zeroA := by
  unfold scoreR
  rw [h]
  split <;> rfl

theorem score_noB {x : Flt} {cn bn : ByteArray} (h : lastOf (brN x) bn x.berths.length = none) : scoreR x cn bn = zeroA := by
  unfold scoreR
  rw [h]
  split
  · split
    · rename_i h1 h2
      cases h2
    · rfl
  · rfl

theorem score_yes {x : Flt} {cn bn : ByteArray} {ci bi : Nat} {y : Cpy} {b : Brt} (hv : validI x = true) (h1 : lastOf (cpN x) cn x.copies.length = some ci) (h2 : lastOf (brN x) bn x.berths.length = some bi) (h3 : x.copies[ci]? = some y) (h4 : x.berths[bi]? = some b) : scoreR x cn bn = scoreA x ci y b := by
  unfold scoreR
  rw [if_pos hv, h1, h2]
  simp only [h3, h4]

theorem idxB_some {bs : List Brt} (h : AscN (bs.map (·.name))) {s : ByteArray} {k : Nat} (e : lastOf (bs.map (·.name)) s bs.length = some k) : idxB bs s = k ∧ ∃ c, bs[k]? = some c ∧ c.name = s := by
  obtain ⟨hk, hs⟩ := lastOf_get e
  obtain ⟨c, hc, hn⟩ := get_map hs
  refine ⟨idxB_at hc hn fun j b hj hb he => ?_, c, hc, hn⟩
  have := h.inj (map_get (f := (·.name)) hb) (show _ = some b.name by rw [he]; exact hs)
  omega

theorem idxB_no {bs : List Brt} {s : ByteArray} (e : lastOf (bs.map (·.name)) s bs.length = none) : idxB bs s = -1 :=
  idxB_none fun j b hj hb he => (lastOf_none _ s _).1 e j hj (by rw [map_get hb, he])

theorem name_short {s : ByteArray} (h : P.nameOk s = true) : s.size ≤ 1000 := by
  unfold P.nameOk at h
  simp only [Bool.and_eq_true, decide_eq_true_eq] at h
  omega

theorem marks_few {ms : List ByteArray} (h : mkOk ms = true) : ms.length ≤ 1000 := by
  unfold mkOk at h
  simp only [Bool.and_eq_true, decide_eq_true_eq] at h
  omega

theorem FltIn.drewS {b : Nat} {x : Flt} {a1 : Option Addr} {c1 : Nat} {a2 : Option Addr} {c2 : Nat} {a3 : Option Addr} {c3 : Nat} {w : World} (h : FltIn b x a1 c1 a2 c2 a3 c3 w) : FltIn b x a1 c1 a2 c2 a3 c3 w.drew := by
  obtain ⟨h0, h1, h2, h3⟩ := h
  exact ⟨by simpa using h0, by simpa using h1, by simpa using h2, by simpa using h3⟩

/-- what the last region reads -/
def ScoIn (B : Nat) (x : Flt) (a1 : Option Addr) (c1 : Nat) (a2 : Option Addr) (c2 : Nat) (a3 : Option Addr) (c3 : Nat) (cb co : Nat) (cs : List Value) (bb bo : Nat) (bs : List Value) (w : World) : Prop := FltIn B x a1 c1 a2 c2 a3 c3 w ∧ w.rangeAt cb co cs ∧ w.rangeAt bb bo bs

set_option maxHeartbeats 4000000 in
set_option maxRecDepth 100000 in
theorem specScoreOf_any (x : Flt) (a1 : Option Addr) (c1 : Nat) (a2 : Option Addr) (c2 : Nat) (a3 : Option Addr) (c3 : Nat) (lo : Nat) (cn bn : ByteArray) (w : World) (n1 : SliceC BrtC 6 lo w a1 x.berths) (n2 : SliceC SvcC 2 lo w a2 x.services) (n3 : SliceC CpyC 12 lo w a3 x.copies)
    (l1 : x.berths.length ≤ 1048576) (l2 : x.services.length ≤ 1048576) (l3 : x.copies.length ≤ 1048576) :
    Calls Tryz.prog 5 #[.agg #[.bool x.pack, .slice a1 x.berths.length c1, .slice a2 x.services.length c2, .slice a3 x.copies.length c3], .string cn, .string bn] w fun e w' => e = .returned (.agg (scoreR x cn bn)) ∧ Below w.heap.size w w' := by
  have N1 := Hid.intro n1
  have N2 := Hid.intro n2
  have N3 := Hid.intro n3
  have HE := Hid.intro (valid_eq x l3)
  clear n1 n2 n3
  go_enter Tryz.func5, Tryz.ntmps5
  go_wp2_with fail
  have e0 : Blk w.heap.size #[.bool x.pack, .slice a1 x.berths.length c1, .slice a2 x.services.length c2, .slice a3 x.copies.length c3] 35 (w.alloc (Obj.cells #[.bool x.pack, .slice a1 x.berths.length c1, .slice a2 x.services.length c2, .slice a3 x.copies.length c3] 35)) := Blk.alloc w _ _
  have e1 := e0.below ((Below.refl _ (w.alloc (Obj.cells #[.bool x.pack, .slice a1 x.berths.length c1, .slice a2 x.services.length c2, .slice a3 x.copies.length c3] 35))).alloc (Nat.le_refl _) (Obj.cells zeroA 29)) e0.lt
  have e2 : Blk (w.heap.size + 1) zeroA 29 ((w.alloc (Obj.cells #[.bool x.pack, .slice a1 x.berths.length c1, .slice a2 x.services.length c2, .slice a3 x.copies.length c3] 35)).alloc (Obj.cells zeroA 29)) := by
    have h := Blk.alloc (w.alloc (Obj.cells #[.bool x.pack, .slice a1 x.berths.length c1, .slice a2 x.services.length c2, .slice a3 x.copies.length c3] 35)) zeroA 29
    simpa using h
  have e3 : Below w.heap.size w ((w.alloc (Obj.cells #[.bool x.pack, .slice a1 x.berths.length c1, .slice a2 x.services.length c2, .slice a3 x.copies.length c3] 35)).alloc (Obj.cells zeroA 29)) := ((Below.refl _ w).alloc (Nat.le_refl _) _).alloc (by simp) _
  have HF0 := Hid.intro e1
  have HZ0 := Hid.intro e2
  have HB0 := Hid.intro e3
  clear e0 e1 e2 e3
  unfold zeroA at HF0 HZ0 HB0
  generalize (w.alloc (Obj.cells #[.bool x.pack, .slice a1 x.berths.length c1, .slice a2 x.services.length c2, .slice a3 x.copies.length c3] 35)).alloc (Obj.cells #[.int .i64 0, .int .i64 0, .int .i64 0, .int .i64 0] 29) = w0 at *
  refine (l2Copy_any x a1 c1 a2 c2 a3 c3 lo cn _ (N3.out.below CpyC.holds HB0.out (Nat.le_refl _)) l3).mono ?_
  rintro e w1 ⟨rfl, hb1⟩
  have HF1 := Hid.intro (HF0.out.below hb1 HF0.out.lt)
  have HZ1 := Hid.intro (HZ0.out.below hb1 HZ0.out.lt)
  have HB1 : Hid (Below w.heap.size w w1) := HB0.out.trans (hb1.mono HB0.out.size)
  clear hb1 HF0 HZ0 HB0
  have f0 : w1.cell? ⟨w.heap.size, 0, none⟩ = some (.bool x.pack) := HF1.out.cell rfl
  have f1 : w1.cell? ⟨w.heap.size, 1, none⟩ = some (.slice a1 x.berths.length c1) := HF1.out.cell rfl
  have f2 : w1.cell? ⟨w.heap.size, 2, none⟩ = some (.slice a2 x.services.length c2) := HF1.out.cell rfl
  have f3 : w1.cell? ⟨w.heap.size, 3, none⟩ = some (.slice a3 x.copies.length c3) := HF1.out.cell rfl
  go_wp2_with fail
  refine (l2Berth_any x a1 c1 a2 c2 a3 c3 lo bn _ (N1.out.below BrtC.holds HB1.out (Nat.le_refl _)) l1).mono ?_
  rintro e w2 ⟨rfl, hb2⟩
  have HF2 := Hid.intro (HF1.out.below hb2 HF1.out.lt)
  have HZ2 := Hid.intro (HZ1.out.below hb2 HZ1.out.lt)
  have HB2 : Hid (Below w.heap.size w w2) := HB1.out.trans (hb2.mono HB1.out.size)
  clear hb2 HF1 HZ1 HB1 f0 f1 f2 f3
  have f0 : w2.cell? ⟨w.heap.size, 0, none⟩ = some (.bool x.pack) := HF2.out.cell rfl
  have f1 : w2.cell? ⟨w.heap.size, 1, none⟩ = some (.slice a1 x.berths.length c1) := HF2.out.cell rfl
  have f2 : w2.cell? ⟨w.heap.size, 2, none⟩ = some (.slice a2 x.services.length c2) := HF2.out.cell rfl
  have f3 : w2.cell? ⟨w.heap.size, 3, none⟩ = some (.slice a3 x.copies.length c3) := HF2.out.cell rfl
  go_wp2_with fail
  refine (specValid_any x a1 c1 a2 c2 a3 c3 lo _ (N1.out.below BrtC.holds HB2.out (Nat.le_refl _)) (N2.out.below SvcC.holds HB2.out (Nat.le_refl _)) (N3.out.below CpyC.holds HB2.out (Nat.le_refl _)) l1 l2 l3).mono ?_
  rintro e w3 ⟨rfl, hb3⟩
  have HF3 := Hid.intro (HF2.out.below hb3 HF2.out.lt)
  have HZ3 := Hid.intro (HZ2.out.below hb3 HZ2.out.lt)
  have HB3 : Hid (Below w.heap.size w w3) := HB2.out.trans (hb3.mono HB2.out.size)
  clear hb3 HF2 HZ2 HB2 f0 f1 f2 f3
  have HT := Hid.intro HZ3.out.there
  have HR10 := Hid.intro (World.rangeAt_setCells_same w3 (w.heap.size + 1) 0 [.int .i64 0, .int .i64 0, .int .i64 0, .int .i64 0] HZ3.out.there)
  have HB10 : Hid (Below w.heap.size w (w3.setCells (w.heap.size + 1) 0 [.int .i64 0, .int .i64 0, .int .i64 0, .int .i64 0])) := below_setCells (by omega) _ _ _ HB3.out
  obtain ⟨w10, HW10⟩ : ∃ w10, Hid (w10 = w3.setCells (w.heap.size + 1) 0 [.int .i64 0, .int .i64 0, .int .i64 0, .int .i64 0]) := ⟨_, rfl⟩
  rw [← HW10.out] at HR10 HB10
  cases hv : validS x with
  | false =>
    have HS := Hid.intro (score_bad (cn := cn) (bn := bn) (HE.out.trans hv))
    clear hv
    go_wp2_with (first | (refine wpList_store_to rfl 29 _ _ rfl (w.heap.size + 1) 0 #[.int .i64 0, .int .i64 0, .int .i64 0, .int .i64 0] rfl rfl HT.out isz_Score (by simp [Value.oneCell']) w10 HW10.out ?_))
    exact bodyPost_ret (results_cell_mid rfl _ _ (w.heap.size + 1) [.int .i64 0, .int .i64 0, .int .i64 0, .int .i64 0] _ rfl HR10.out Tryz.underlying29 rfl isz_Score) rfl ⟨by rw [HS.out], HB10.out⟩
  | true =>
    have HV : Hid (validI x = true) := HE.out.trans hv
    obtain ⟨_, k3, _, hcN, _, _⟩ := valid_parts HV.out
    obtain ⟨k1, hbN, hbr, _⟩ := valid_more HV.out
    clear hv
    cases hci : lastOf (cpN x) cn x.copies.length with
    | none =>
      have HS := Hid.intro (score_noC (bn := bn) hci)
      rw [idxC_no hci]
      clear hci hcN hbN hbr
      go_wp2_with (first | (refine wpList_store_to rfl 29 _ _ rfl (w.heap.size + 1) 0 #[.int .i64 0, .int .i64 0, .int .i64 0, .int .i64 0] rfl rfl HT.out isz_Score (by simp [Value.oneCell']) w10 HW10.out ?_))
      exact bodyPost_ret (results_cell_mid rfl _ _ (w.heap.size + 1) [.int .i64 0, .int .i64 0, .int .i64 0, .int .i64 0] _ rfl HR10.out Tryz.underlying29 rfl isz_Score) rfl ⟨by rw [HS.out], HB10.out⟩
    | some ci =>
      obtain ⟨hic, y, hy, hyn⟩ := idxC_some hcN hci
      clear hyn
      rw [hic]
      cases hbi : lastOf (brN x) bn x.berths.length with
      | none =>
        have HS := Hid.intro (score_noB (cn := cn) hbi)
        rw [idxB_no hbi]
        clear hci hcN hbN hbr hbi hy hic
        go_wp2_with (first | (refine wpList_store_to rfl 29 _ _ rfl (w.heap.size + 1) 0 #[.int .i64 0, .int .i64 0, .int .i64 0, .int .i64 0] rfl rfl HT.out isz_Score (by simp [Value.oneCell']) w10 HW10.out ?_))
        exact bodyPost_ret (results_cell_mid rfl _ _ (w.heap.size + 1) [.int .i64 0, .int .i64 0, .int .i64 0, .int .i64 0] _ rfl HR10.out Tryz.underlying29 rfl isz_Score) rfl ⟨by rw [HS.out], HB10.out⟩
      | some bi =>
        obtain ⟨hib, b, hb, hbn⟩ := idxB_some hbN hbi
        clear hbn
        rw [hib]
        have HS := Hid.intro (score_yes HV.out hci hbi hy hb)
        have HY := Hid.intro hy
        have HBY := Hid.intro hb
        have hcl : ci < x.copies.length := lt_of_some hy
        have hbl : bi < x.berths.length := lt_of_some hb
        have HBR := Hid.intro (hbr bi b hb)
        obtain ⟨cb, co, rfl, _, hcbl, hcc⟩ := (N3.out.below CpyC.holds HB3.out (Nat.le_refl _)).at hy
        obtain ⟨a7, c7, q0, q1, q2, q3, q4, q5, q6, q7, q8, q9, q10, q11, z0, z1, z6, z9, z10, z11, z7⟩ := hcc
        obtain ⟨bb, bo, rfl, _, hbbl, hbc⟩ := (N1.out.below BrtC.holds HB3.out (Nat.le_refl _)).at hb
        obtain ⟨am, cm, t0, t1, t2, t3, t4, t5, _, _, nM⟩ := hbc
        simp only [Nat.add_zero] at q0 t0
        have HRC : Hid (w3.rangeAt cb (co + ci * 12) [.string y.name, .string y.service, .int .i64 y.rank, .int .i64 y.born, .int .i64 y.room, .int .i64 y.hold, .string y.select, .slice a7 y.likes.length c7, .int .i64 y.apart, .string y.near, .string y.fixed, .string y.at_]) := range_cons q0 (range_cons q1 (range_cons q2 (range_cons q3 (range_cons q4 (range_cons q5 (range_cons q6 (range_cons q7 (range_cons q8 (range_cons q9 (range_cons q10 (range_cons q11 (range_nil _ _ _))))))))))))
        have HRB : Hid (w3.rangeAt bb (bo + bi * 6) [.string b.name, .string b.zone, .slice am b.marks.length cm, .int .i64 b.room, .int .i64 b.hold, .bool b.closed]) := range_cons t0 (range_cons t1 (range_cons t2 (range_cons t3 (range_cons t4 (range_cons t5 (range_nil _ _ _))))))
        have Z7 := Hid.intro z7
        have NM := Hid.intro nM
        have HCB : Hid (cb < w3.heap.size) := hcbl
        have HBB : Hid (bb < w3.heap.size) := hbbl
        have hsz : w.heap.size + 1 < w3.heap.size := HZ3.out.lt
        have HFI : Hid (FltIn w.heap.size x (some ⟨bb, bo, none⟩) c1 a2 c2 (some ⟨cb, co, none⟩) c3 w3) := ⟨HF3.out.cell rfl, HF3.out.cell rfl, HF3.out.cell rfl, HF3.out.cell rfl⟩
        clear HT HR10 HB10 HW10 hci hbi hcN hbN hbr hy hb hic hib q0 q1 q2 q3 q4 q5 q6 q7 q8 q9 q10 q11 z0 z1 z6 z9 z10 z11 z7 t0 t1 t2 t3 t4 t5 nM hcbl hbbl
        go_upto_region 5 with fail
        refine wp_region_held_drew (S := ScoIn w.heap.size x (some ⟨bb, bo, none⟩) c1 a2 c2 (some ⟨cb, co, none⟩) c3 cb (co + ci * 12) [.string y.name, .string y.service, .int .i64 y.rank, .int .i64 y.born, .int .i64 y.room, .int .i64 y.hold, .string y.select, .slice a7 y.likes.length c7, .int .i64 y.apart, .string y.near, .string y.fixed, .string y.at_] bb (bo + bi * 6) [.string b.name, .string b.zone, .slice am b.marks.length cm, .int .i64 b.room, .int .i64 b.hold, .bool b.closed]) (by kernel_rfl) ⟨HFI.out.drewS, range_drew HRC.out, range_drew HRB.out⟩ (fun hS => ?_)
        refine wpAnyH_take (i := 0) (oi := { dst := some 27, op := _, type := _, pos := _, after := _, guard := none }) (v := .agg #[.bool x.pack, .slice (some ⟨bb, bo, none⟩) x.berths.length c1, .slice a2 x.services.length c2, .slice (some ⟨cb, co, none⟩) x.copies.length c3]) rfl (by kernel_rfl) (by kernel_rfl) (by kernel_rfl) (fun _ _ _ h => h) (Or.inl ⟨by rfl, ?_⟩) hS ?_
        · intro wy hy
          obtain ⟨⟨y0, y1, y2, y3⟩, yr, yb⟩ := hy
          go_simp
        simp only [Act.put, List.setIfInBounds_toArray, List.set_cons_zero, List.set_cons_succ]
        refine wpAnyH_take (i := 1) (oi := { dst := some 28, op := _, type := _, pos := _, after := _, guard := none }) (v := .pointer (some ⟨w.heap.size, 3, none⟩)) rfl (by kernel_rfl) (by kernel_rfl) (by kernel_rfl) (fun _ _ _ h => h) (Or.inl ⟨by rfl, ?_⟩) hS ?_
        · intro wy hy
          obtain ⟨⟨y0, y1, y2, y3⟩, yr, yb⟩ := hy
          go_simp
        simp only [Act.put, List.setIfInBounds_toArray, List.set_cons_zero, List.set_cons_succ]
        refine wpAnyH_take (i := 2) (oi := { dst := some 29, op := _, type := _, pos := _, after := _, guard := none }) (v := .slice (some ⟨cb, co, none⟩) x.copies.length c3) rfl (by kernel_rfl) (by kernel_rfl) (by kernel_rfl) (fun _ _ _ h => h) (Or.inl ⟨by rfl, ?_⟩) hS ?_
        · intro wy hy
          obtain ⟨⟨y0, y1, y2, y3⟩, yr, yb⟩ := hy
          go_simp
        simp only [Act.put, List.setIfInBounds_toArray, List.set_cons_zero, List.set_cons_succ]
        refine wpAnyH_take (i := 3) (oi := { dst := some 30, op := _, type := _, pos := _, after := _, guard := none }) (v := .int .i64 (ci : Int)) rfl (by kernel_rfl) (by kernel_rfl) (by kernel_rfl) (fun _ _ _ h => h) (Or.inl ⟨by rfl, ?_⟩) hS ?_
        · intro wy hy
          obtain ⟨⟨y0, y1, y2, y3⟩, yr, yb⟩ := hy
          go_simp
        simp only [Act.put, List.setIfInBounds_toArray, List.set_cons_zero, List.set_cons_succ]
        refine wpAnyH_take (i := 4) (oi := { dst := some 31, op := _, type := _, pos := _, after := _, guard := none }) (v := .pointer (some ⟨cb, co + ci * 12, none⟩)) rfl (by kernel_rfl) (by kernel_rfl) (by kernel_rfl) (fun _ _ _ h => h) (Or.inl ⟨by rfl, ?_⟩) hS ?_
        · intro wy hy
          obtain ⟨⟨y0, y1, y2, y3⟩, yr, yb⟩ := hy
          go_simp
        simp only [Act.put, List.setIfInBounds_toArray, List.set_cons_zero, List.set_cons_succ]
        refine wpAnyH_take (i := 5) (oi := { dst := some 32, op := _, type := _, pos := _, after := _, guard := none }) (v := .agg #[.string y.name, .string y.service, .int .i64 y.rank, .int .i64 y.born, .int .i64 y.room, .int .i64 y.hold, .string y.select, .slice a7 y.likes.length c7, .int .i64 y.apart, .string y.near, .string y.fixed, .string y.at_]) rfl (by kernel_rfl) (by kernel_rfl) (by kernel_rfl) (fun _ _ _ h => h) (yieldsIf_load_mid rfl 48 (.tmp 31) rfl cb (co + ci * 12) rfl [.string y.name, .string y.service, .int .i64 y.rank, .int .i64 y.born, .int .i64 y.room, .int .i64 y.hold, .string y.select, .slice a7 y.likes.length c7, .int .i64 y.apart, .string y.near, .string y.fixed, .string y.at_] _ (fun _ h => h.2.1) Tryz.underlying48 rfl isz_Cpy) hS ?_
        simp only [Act.put, List.setIfInBounds_toArray, List.set_cons_zero, List.set_cons_succ]
        refine wpAnyH_take (i := 6) (oi := { dst := some 33, op := _, type := _, pos := _, after := _, guard := none }) (v := .pointer (some ⟨w.heap.size, 1, none⟩)) rfl (by kernel_rfl) (by kernel_rfl) (by kernel_rfl) (fun _ _ _ h => h) (Or.inl ⟨by rfl, ?_⟩) hS ?_
        · intro wy hy
          obtain ⟨⟨y0, y1, y2, y3⟩, yr, yb⟩ := hy
          go_simp
        simp only [Act.put, List.setIfInBounds_toArray, List.set_cons_zero, List.set_cons_succ]
        refine wpAnyH_take (i := 7) (oi := { dst := some 34, op := _, type := _, pos := _, after := _, guard := none }) (v := .slice (some ⟨bb, bo, none⟩) x.berths.length c1) rfl (by kernel_rfl) (by kernel_rfl) (by kernel_rfl) (fun _ _ _ h => h) (Or.inl ⟨by rfl, ?_⟩) hS ?_
        · intro wy hy
          obtain ⟨⟨y0, y1, y2, y3⟩, yr, yb⟩ := hy
          go_simp
        simp only [Act.put, List.setIfInBounds_toArray, List.set_cons_zero, List.set_cons_succ]
        refine wpAnyH_take (i := 8) (oi := { dst := some 35, op := _, type := _, pos := _, after := _, guard := none }) (v := .int .i64 (bi : Int)) rfl (by kernel_rfl) (by kernel_rfl) (by kernel_rfl) (fun _ _ _ h => h) (Or.inl ⟨by rfl, ?_⟩) hS ?_
        · intro wy hy
          obtain ⟨⟨y0, y1, y2, y3⟩, yr, yb⟩ := hy
          go_simp
        simp only [Act.put, List.setIfInBounds_toArray, List.set_cons_zero, List.set_cons_succ]
        refine wpAnyH_take (i := 9) (oi := { dst := some 36, op := _, type := _, pos := _, after := _, guard := none }) (v := .pointer (some ⟨bb, bo + bi * 6, none⟩)) rfl (by kernel_rfl) (by kernel_rfl) (by kernel_rfl) (fun _ _ _ h => h) (Or.inl ⟨by rfl, ?_⟩) hS ?_
        · intro wy hy
          obtain ⟨⟨y0, y1, y2, y3⟩, yr, yb⟩ := hy
          go_simp
        simp only [Act.put, List.setIfInBounds_toArray, List.set_cons_zero, List.set_cons_succ]
        refine wpAnyH_take (i := 10) (oi := { dst := some 37, op := _, type := _, pos := _, after := _, guard := none }) (v := .agg #[.string b.name, .string b.zone, .slice am b.marks.length cm, .int .i64 b.room, .int .i64 b.hold, .bool b.closed]) rfl (by kernel_rfl) (by kernel_rfl) (by kernel_rfl) (fun _ _ _ h => h) (yieldsIf_load_mid rfl 51 (.tmp 36) rfl bb (bo + bi * 6) rfl [.string b.name, .string b.zone, .slice am b.marks.length cm, .int .i64 b.room, .int .i64 b.hold, .bool b.closed] _ (fun _ h => h.2.2) Tryz.underlying51 rfl isz_Brt) hS ?_
        simp only [Act.put, List.setIfInBounds_toArray, List.set_cons_zero, List.set_cons_succ]
        refine wpAnyH_ready (rs := [11]) (by kernel_rfl) (by simp) (AllReadyH.cons (o := { dst := some 38, op := _, type := _, pos := _, after := _, guard := none }) rfl (fun K hK => ?_) AllReadyH.nil)
        go_simp
        have hd : Below w.heap.size w w3.drew := HB3.out.drew
        have hd3 : Below w3.heap.size w3 w3.drew := (Below.refl w3.heap.size w3).drew
        have H1 : SliceC BrtC 6 lo w3.drew (some ⟨bb, bo, none⟩) x.berths := N1.out.below BrtC.holds hd (Nat.le_refl _)
        have H2 : SliceC CpyC 12 lo w3.drew (some ⟨cb, co, none⟩) x.copies := N3.out.below CpyC.holds hd (Nat.le_refl _)
        have H3 : SliceC LikC 2 lo w3.drew a7 y.likes := Z7.out.below LikC.holds hd3 (Nat.le_refl _)
        have H4 : SliceC StrC 1 lo w3.drew am b.marks := NM.out.below StrC.holds hd3 (Nat.le_refl _)
        have H5 : ¬ b.name = ⟨#[]⟩ := name_ne HBR.out.1
        have H6 : b.marks.length ≤ 1000 := marks_few HBR.out.2.2.2
        have H7 : b.zone.size ≤ 1000 := name_short HBR.out.2.1
        have H8 := HBR.out.2.2.1
        have HC := l4Score_any x (some ⟨bb, bo, none⟩) c1 a2 c2 (some ⟨cb, co, none⟩) c3 lo ci y a7 c7 b am cm w3.drew H1 H2 H3 H4 HY.out H5 H6 H7 HV.out H8
        clear H1 H2 H3 H4 H5 H6 H7 H8 hd3
        refine HC.mono ?_
        rintro e w4 ⟨rfl, hb4⟩
        have hd4 : Below w3.heap.size w3 w4 := (Below.refl _ w3).drew.trans hb4
        have HB4 : Hid (Below w.heap.size w w4) := HB3.out.trans (hd4.mono HB3.out.size)
        have HZ4 := Hid.intro (HZ3.out.below hd4 HZ3.out.lt)
        have hS4 : ScoIn w.heap.size x (some ⟨bb, bo, none⟩) c1 a2 c2 (some ⟨cb, co, none⟩) c3 cb (co + ci * 12) [.string y.name, .string y.service, .int .i64 y.rank, .int .i64 y.born, .int .i64 y.room, .int .i64 y.hold, .string y.select, .slice a7 y.likes.length c7, .int .i64 y.apart, .string y.near, .string y.fixed, .string y.at_] bb (bo + bi * 6) [.string b.name, .string b.zone, .slice am b.marks.length cm, .int .i64 b.room, .int .i64 b.hold, .bool b.closed] w4 := ⟨HFI.out.below hd4 (by omega), range_belowV HRC.out hd4 HCB.out, range_belowV HRB.out hd4 HBB.out⟩
        refine hK.out _ _ hS4 (fun hS => ?_)
        clear hK K hb4 hd hS4
        obtain ⟨v0, hv0⟩ : ∃ v : Int, v = likeTo (fun t => selS t b.marks b.zone) y.likes y.likes.length := ⟨_, rfl⟩
        obtain ⟨v1, hv1⟩ : ∃ v : Int, v = ((cntTo (znF x ci y.service b.zone) x.copies.length : Nat) : Int) := ⟨_, rfl⟩
        obtain ⟨v2, hv2⟩ : ∃ v : Int, v = ((cntTo (bthF x ci y.service b.name) x.copies.length : Nat) : Int) := ⟨_, rfl⟩
        obtain ⟨v3, hv3⟩ : ∃ v : Int, v = b.room - y.room - roomTo x ci b.name x.copies.length := ⟨_, rfl⟩
        have HSC : Hid (scoreR x cn bn = #[.int .i64 v0, .int .i64 v1, .int .i64 v2, .int .i64 v3]) := by
          show _ = _
          rw [HS.out, hv0, hv1, hv2, hv3]
          unfold scoreA
          rw [show (fun t => asksI t b.marks b.zone) = (fun t => selS t b.marks b.zone) from funext fun t => asks_eq t _ _]
        rw [← hv0, ← hv1, ← hv2, ← hv3]
        clear hv0 hv1 hv2 hv3 HS
        refine wpAnyH_ready (rs := [12]) (by kernel_rfl) (by simp) (AllReadyH.cons (o := { dst := none, op := _, type := _, pos := _, after := _, guard := none }) rfl (fun K hK => ?_) AllReadyH.nil)
        rw [if_pos (by rfl)]
        refine wp_store_mid 29 (.tmp 6) (.tmp 38) (by rfl) (w.heap.size + 1) 0 #[.int .i64 v0, .int .i64 v1, .int .i64 v2, .int .i64 v3] (by rfl) (by rfl) HZ4.out.there isz_Score (by simp [Value.oneCell']) ?_
        have HB5 : Hid (Below w.heap.size w (w4.setCells (w.heap.size + 1) 0 [.int .i64 v0, .int .i64 v1, .int .i64 v2, .int .i64 v3])) := below_setCells (by omega) _ _ _ HB4.out
        have HR5 : Hid ((w4.setCells (w.heap.size + 1) 0 [.int .i64 v0, .int .i64 v1, .int .i64 v2, .int .i64 v3]).rangeAt (w.heap.size + 1) 0 [.int .i64 v0, .int .i64 v1, .int .i64 v2, .int .i64 v3]) := World.rangeAt_setCells_same w4 (w.heap.size + 1) 0 _ HZ4.out.there
        have hcw : cb < w.heap.size := by
          obtain ⟨b', o', e, _, h, _⟩ := N3.out.at HY.out
          cases e
          exact h
        have hbw : bb < w.heap.size := by
          obtain ⟨b', o', e, _, h, _⟩ := N1.out.at HBY.out
          cases e
          exact h
        have hbs : Below (w.heap.size + 1) w4 (w4.setCells (w.heap.size + 1) 0 [.int .i64 v0, .int .i64 v1, .int .i64 v2, .int .i64 v3]) := below_setCells (Nat.le_refl _) _ _ _ (Below.refl _ _)
        refine hK.out _ _ ⟨hS.1.below hbs (by omega), range_belowV hS.2.1 hbs (by omega), range_belowV hS.2.2 hbs (by omega)⟩ (fun hS => ?_)
        clear hK K hbs hS
        generalize w4.setCells (w.heap.size + 1) 0 [.int .i64 v0, .int .i64 v1, .int .i64 v2, .int .i64 v3] = w5 at *
        refine wpAnyH_done (by kernel_rfl) ?_ _
        go_wp2_with fail
        exact bodyPost_ret (results_cell_mid rfl _ _ (w.heap.size + 1) [.int .i64 v0, .int .i64 v1, .int .i64 v2, .int .i64 v3] _ rfl HR5.out Tryz.underlying29 rfl isz_Score) rfl ⟨by rw [HSC.out], HB5.out⟩

end Go.Proofs.YthndbjhhhdbhpaaGreat
