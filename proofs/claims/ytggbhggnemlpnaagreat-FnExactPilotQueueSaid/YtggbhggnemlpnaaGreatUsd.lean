/-
  Walks: what is used of a berth.
-/
import Derived.Test.YtggbhggnemlpnaaGreatPlc
namespace Go.Proofs.YtggbhggnemlpnaaGreat
open Go.RowKit Go.WideMaps Go.Maps

/-- how many stand, the room and the hold, of the first k copies, one left out -/
def useTo (cs : List Cpy) (s : ByteArray) (but : Int) : Nat → Int × Int × Int
  | 0 => (0, 0, 0)
  | k + 1 => match cs[k]? with
    | some c => if c.at_ = s ∧ (k : Int) ≠ but then (wrap64 ((useTo cs s but k).1 + 1), wrap64 ((useTo cs s but k).2.1 + c.room), wrap64 ((useTo cs s but k).2.2 + c.hold)) else useTo cs s but k
    | none => useTo cs s but k

theorem useTo_in {cs : List Cpy} {s : ByteArray} {but : Int} {k : Nat} {c : Cpy} (hk : cs[k]? = some c) (h1 : c.at_ = s) (h2 : (k : Int) ≠ but) : useTo cs s but (k + 1) = (wrap64 ((useTo cs s but k).1 + 1), wrap64 ((useTo cs s but k).2.1 + c.room), wrap64 ((useTo cs s but k).2.2 + c.hold)) := by
  conv => lhs; unfold useTo
  rw [hk]
  simp [h1, h2]

theorem useTo_out {cs : List Cpy} {s : ByteArray} {but : Int} {k : Nat} {c : Cpy} (hk : cs[k]? = some c) (h : ¬ (c.at_ = s ∧ (k : Int) ≠ but)) : useTo cs s but (k + 1) = useTo cs s but k := by
  conv => lhs; unfold useTo
  rw [hk]
  simp only [if_neg h]

theorem bts_ne {a b : ByteArray} (h : ¬ a = b) : (a.toList == b.toList) = false := by
  rw [ByteArray.toList_eq, ByteArray.toList_eq]
  have : ¬ a.data.toList = b.data.toList := fun e => h (by
    cases a with | mk x => cases b with | mk y => cases x; cases y; simp at e; simp [e])
  simpa using this

theorem bts_eq {a b : ByteArray} (h : a = b) : (a.toList == b.toList) = true := by subst h; simp

/-- the place of the first berth with a name -/
def idxB (bs : List Brt) (s : ByteArray) : Int := match bs.findIdx? (fun b => decide (b.name = s)) with
  | some k => k
  | none => -1

theorem idxB_at {bs : List Brt} {s : ByteArray} {k : Nat} {b : Brt} (hk : bs[k]? = some b) (h : b.name = s) (ho : ∀ j b, j < k → bs[j]? = some b → b.name ≠ s) : idxB bs s = k := by
  have : bs.findIdx? (fun b => decide (b.name = s)) = some k := by
    rw [List.findIdx?_eq_some_iff_getElem]
    have hlt := lt_of_some hk
    rw [List.getElem?_eq_getElem hlt] at hk
    injection hk with hk
    refine ⟨hlt, by simp [hk, h], fun j hj => ?_⟩
    have := ho j bs[j] hj (List.getElem?_eq_getElem (by omega))
    simpa using this
  simp [idxB, this]

theorem idxB_none {bs : List Brt} {s : ByteArray} (ho : ∀ j b, j < bs.length → bs[j]? = some b → b.name ≠ s) : idxB bs s = -1 := by
  have : bs.findIdx? (fun b => decide (b.name = s)) = none := by
    rw [List.findIdx?_eq_none_iff]
    intro b hb
    obtain ⟨j, hj⟩ := List.getElem?_of_mem hb
    simpa using ho j b (lt_of_some hj) hj
  simp [idxB, this]

set_option maxHeartbeats 1000000 in
set_option maxRecDepth 100000 in
theorem l2Berth_any (x : Flt) (a1 : Option Addr) (c1 : Nat) (a2 : Option Addr) (c2 : Nat) (a3 : Option Addr) (c3 : Nat) (lo : Nat) (s : ByteArray) (w : World) (n1 : SliceC BrtC 6 lo w a1 x.berths) (hl : x.berths.length ≤ 1048576) :
    Calls Tryz.prog 51 #[.agg #[.bool x.pack, .slice a1 x.berths.length c1, .slice a2 x.services.length c2, .slice a3 x.copies.length c3], .string s] w fun e w' => e = .returned (.int .i64 (idxB x.berths s)) ∧ Below w.heap.size w w' := by
  have HI : Hid (SliceC BrtC 6 lo w a1 x.berths) := n1
  clear n1
  generalize hbs : x.berths = bs at *
  clear hbs
  go_enter Tryz.func51, Tryz.ntmps51
  go_wp2_with fail
  go_loopw [5] (fun i wr => ∃ k : Nat, k ≤ bs.length ∧ i = .int .i64 k ∧ wr.cell? ⟨w.heap.size, 1, none⟩ = some (.slice a1 bs.length c1) ∧ Hid (∀ j b, j < k → bs[j]? = some b → b.name ≠ s) ∧ Below w.heap.size w wr) (fun i _ => bs.length - (intOf i).toNat)
  case atStart => exact ⟨0, Nat.zero_le _, rfl, by simp, fun j b h => by omega, by go_grown⟩
  case round =>
    obtain ⟨k, hk, rfl, hcell, ho, hbel⟩ := hrel
    by_cases hlt : k < bs.length
    · obtain ⟨x, hx⟩ : ∃ x, bs[k]? = some x := ⟨bs[k], List.getElem?_eq_getElem hlt⟩
      obtain ⟨b, o, rfl, _, _, hc⟩ := (HI.out.below BrtC.holds hbel (Nat.le_refl _)).at hx
      obtain ⟨a9, c9, q0, q1, q2, q3, q4, q5, z0, z1, n9⟩ := hc
      simp only [Nat.add_zero] at q0
      have HX : Hid (bs[k]? = some x) := hx
      clear hx q1 q2 q3 q4 q5 z0 z1 n9
      by_cases h : x.name = s
      · have HZ : Hid (idxB bs s = k) := idxB_at HX.out h ho.out
        have ht := bts_eq h
        clear h
        go_wp2_with fail
        go_ret
        exact ⟨ret_int HZ.out.symm, hbel⟩
      · have ht := bts_ne h
        go_wp2_with fail
        go_roundw
        case rel =>
          refine ⟨k + 1, by omega, by go_num, hcell, ?_, hbel⟩
          intro j y hj hy
          by_cases e : j = k
          · subst e
            rw [HX.out] at hy
            cases hy
            exact h
          · exact ho.out j y (by omega) hy
        case measure => simp [intOf]; omega
    · have hke : k = bs.length := by omega
      have HZ : Hid (idxB bs s = -1) := idxB_none (hke ▸ ho.out)
      go_wp2_with fail
      go_ret
      exact ⟨ret_int HZ.out.symm, hbel⟩

theorem isz_use : (Tryz.prog.info? 156).map (·.size) = some 3 := by kernel_rfl

/-- the sum under way lies in a block -/
def UseAt (w : World) (g : Nat) (u : Int × Int × Int) : Prop :=
  w.rangeAt g 0 [.int .i64 u.1, .int .i64 u.2.1, .int .i64 u.2.2] ∧ w.there g 0 3

theorem UseAt.below {w w' : World} {g B : Nat} {u : Int × Int × Int} (h : UseAt w g u) (hb : Below B w w') (hB : g < B) : UseAt w' g u := by
  refine ⟨fun j v hj => ?_, fun j hj => ?_⟩
  · rw [hb.cell (p := ⟨g, _, none⟩) hB]; exact h.1 j v hj
  · rw [hb.cell (p := ⟨g, _, none⟩) hB, hb.frozen (p := ⟨g, _, none⟩) hB]; exact h.2 j hj

theorem UseAt.cells {w : World} {g : Nat} {u : Int × Int × Int} (h : UseAt w g u) : w.cell? ⟨g, 0, none⟩ = some (.int .i64 u.1) ∧ w.cell? ⟨g, 1, none⟩ = some (.int .i64 u.2.1) ∧ w.cell? ⟨g, 2, none⟩ = some (.int .i64 u.2.2) :=
  ⟨h.1 0 _ rfl, h.1 1 _ rfl, h.1 2 _ rfl⟩

theorem UseAt.set {w : World} {g : Nat} {u : Int × Int × Int} (h : UseAt w g u) (v : Int × Int × Int) : UseAt (w.setCells g 0 [.int .i64 v.1, .int .i64 v.2.1, .int .i64 v.2.2]) g v :=
  ⟨World.rangeAt_setCells_same _ _ _ _ h.2, World.there_setCells h.2 _ _ _⟩

set_option maxHeartbeats 1000000 in
set_option maxRecDepth 100000 in
theorem used_any (p : Nat) (cs : List Cpy) (a3 : Option Addr) (c3 lo : Nat) (s : ByteArray) (but : Int) (w : World) (hp : w.cell? ⟨p, 3, none⟩ = some (.slice a3 cs.length c3)) (n3 : SliceC CpyC 12 lo w a3 cs) (hl : cs.length ≤ 1048576) :
    Calls Tryz.prog 111 #[.pointer (some ⟨p, 0, none⟩), .string s, .int .i64 but] w fun e w' => e = .returned (.agg #[.int .i64 (useTo cs s but cs.length).1, .int .i64 (useTo cs s but cs.length).2.1, .int .i64 (useTo cs s but cs.length).2.2]) ∧ Below w.heap.size w w' := by
  have HI : Hid (SliceC CpyC 12 lo w a3 cs) := n3
  have hpl := block_lt_of_cell hp
  clear n3
  go_enter Tryz.func111, Tryz.ntmps111
  go_wp2_with fail
  go_loopw [16] (fun i wr => ∃ k : Nat, k ≤ cs.length ∧ i = .int .i64 k ∧ w.heap.size + 1 < wr.heap.size ∧ Hid (UseAt wr (w.heap.size + 1) (useTo cs s but k)) ∧ Hid (wr.there w.heap.size 0 3) ∧ Below w.heap.size w wr) (fun i _ => cs.length - (intOf i).toNat)
  case atStart =>
    refine ⟨0, Nat.zero_le _, rfl, by simp, ⟨?_, ?_⟩, ?_, by go_grown⟩
    · exact range_cons (by simp [useTo]) (range_cons (by simp [useTo]) (range_cons (by simp [useTo]) (range_nil _ _ _)))
    · exact there_cons (by simp; rfl) (by simp) (there_cons (by simp; rfl) (by simp) (there_cons (by simp; rfl) (by simp) (there_nil _ _ _)))
    · exact there_cons (by simp; rfl) (by simp) (there_cons (by simp; rfl) (by simp) (there_cons (by simp; rfl) (by simp) (there_nil _ _ _)))
  case round =>
    obtain ⟨k, hk, rfl, hsz, hu, ht, hbel⟩ := hrel
    by_cases hlt : k < cs.length
    · obtain ⟨x, hx⟩ : ∃ x, cs[k]? = some x := ⟨cs[k], List.getElem?_eq_getElem hlt⟩
      obtain ⟨b, o, rfl, _, _, hc⟩ := (HI.out.below CpyC.holds hbel (Nat.le_refl _)).at hx
      obtain ⟨a7, c7, q0, q1, q2, q3, q4, q5, q6, q7, q8, q9, q10, q11, _, _, _, _, _, _, _⟩ := hc
      simp only [Nat.add_zero] at q0 q1 q2 q3 q4 q5 q6 q7 q8 q9 q10 q11
      have HRA : Hid (wr.rangeAt b (o + k * 12) [.string x.name, .string x.service, .int .i64 x.rank, .int .i64 x.born, .int .i64 x.room, .int .i64 x.hold, .string x.select, .slice a7 x.likes.length c7, .int .i64 x.apart, .string x.near, .string x.fixed, .string x.at_]) := range_cons q0 (range_cons q1 (range_cons q2 (range_cons q3 (range_cons q4 (range_cons q5 (range_cons q6 (range_cons q7 (range_cons q8 (range_cons q9 (range_cons q10 (range_cons q11 (range_nil _ _ _))))))))))))
      have HX : Hid (cs[k]? = some x) := hx
      have HB : Hid (Below w.heap.size w wr) := hbel
      clear hx q0 q1 q2 q3 q4 q5 q6 q7 q8 q9 q10 q11 hbel
      go_upto_region 5 with (first | (refine wpList_load_mid rfl 65 _ rfl b (o + k * 12) (by first | rfl | (simp [go_sem]; done)) [.string x.name, .string x.service, .int .i64 x.rank, .int .i64 x.born, .int .i64 x.room, .int .i64 x.hold, .string x.select, .slice a7 x.likes.length c7, .int .i64 x.apart, .string x.near, .string x.fixed, .string x.at_] _ HRA.out Tryz.underlying65 rfl isz_Cpy ?_))
      have hal : Below wr.heap.size wr (wr.alloc (Obj.cells #[.string x.name, .string x.service, .int .i64 x.rank, .int .i64 x.born, .int .i64 x.room, .int .i64 x.hold, .string x.select, .slice a7 x.likes.length c7, .int .i64 x.apart, .string x.near, .string x.fixed, .string x.at_] 65)) := (Below.refl _ _).alloc (Nat.le_refl _) _
      have e4 : (wr.alloc (Obj.cells #[.string x.name, .string x.service, .int .i64 x.rank, .int .i64 x.born, .int .i64 x.room, .int .i64 x.hold, .string x.select, .slice a7 x.likes.length c7, .int .i64 x.apart, .string x.near, .string x.fixed, .string x.at_] 65)).cell? ⟨wr.heap.size, 4, none⟩ = some (.int .i64 x.room) := by simp
      have e5 : (wr.alloc (Obj.cells #[.string x.name, .string x.service, .int .i64 x.rank, .int .i64 x.born, .int .i64 x.room, .int .i64 x.hold, .string x.select, .slice a7 x.likes.length c7, .int .i64 x.apart, .string x.near, .string x.fixed, .string x.at_] 65)).cell? ⟨wr.heap.size, 5, none⟩ = some (.int .i64 x.hold) := by simp
      have e11 : (wr.alloc (Obj.cells #[.string x.name, .string x.service, .int .i64 x.rank, .int .i64 x.born, .int .i64 x.room, .int .i64 x.hold, .string x.select, .slice a7 x.likes.length c7, .int .i64 x.apart, .string x.near, .string x.fixed, .string x.at_] 65)).cell? ⟨wr.heap.size, 11, none⟩ = some (.string x.at_) := by simp
      have HU4 : Hid (UseAt (wr.alloc (Obj.cells #[.string x.name, .string x.service, .int .i64 x.rank, .int .i64 x.born, .int .i64 x.room, .int .i64 x.hold, .string x.select, .slice a7 x.likes.length c7, .int .i64 x.apart, .string x.near, .string x.fixed, .string x.at_] 65)) (w.heap.size + 1) (useTo cs s but k)) := hu.out.below hal (by omega)
      have HT4 : Hid ((wr.alloc (Obj.cells #[.string x.name, .string x.service, .int .i64 x.rank, .int .i64 x.born, .int .i64 x.room, .int .i64 x.hold, .string x.select, .slice a7 x.likes.length c7, .int .i64 x.apart, .string x.near, .string x.fixed, .string x.at_] 65)).there w.heap.size 0 3) := World.there_alloc ht.out _
      have HB4 : Hid (Below w.heap.size w (wr.alloc (Obj.cells #[.string x.name, .string x.service, .int .i64 x.rank, .int .i64 x.born, .int .i64 x.room, .int .i64 x.hold, .string x.select, .slice a7 x.likes.length c7, .int .i64 x.apart, .string x.near, .string x.fixed, .string x.at_] 65))) := HB.out.alloc (by omega) _
      have hs4 : w.heap.size + 1 < (wr.alloc (Obj.cells #[.string x.name, .string x.service, .int .i64 x.rank, .int .i64 x.born, .int .i64 x.room, .int .i64 x.hold, .string x.select, .slice a7 x.likes.length c7, .int .i64 x.apart, .string x.near, .string x.fixed, .string x.at_] 65)).heap.size := by simp; omega
      clear hal hu ht HB
      generalize wr.alloc (Obj.cells #[.string x.name, .string x.service, .int .i64 x.rank, .int .i64 x.born, .int .i64 x.room, .int .i64 x.hold, .string x.select, .slice a7 x.likes.length c7, .int .i64 x.apart, .string x.near, .string x.fixed, .string x.at_] 65) = w4 at *
      obtain ⟨u0, u1, u2⟩ := HU4.out.cells
      by_cases h : x.at_ = s ∧ (k : Int) ≠ but
      · have HV : Hid (useTo cs s but (k + 1) = _) := useTo_in HX.out h.1 h.2
        have hte := bts_eq h.1
        have hkb := h.2
        obtain ⟨w5, hw5⟩ : ∃ w', w' = w4.setCells (w.heap.size + 1) 0 [.int .i64 (wrap64 ((useTo cs s but k).1 + 1)), .int .i64 (wrap64 ((useTo cs s but k).2.1 + x.room)), .int .i64 (wrap64 ((useTo cs s but k).2.2 + x.hold))] := ⟨_, rfl⟩
        have HW5 : Hid (w5 = w4.setCells (w.heap.size + 1) 0 [.int .i64 (wrap64 ((useTo cs s but k).1 + 1)), .int .i64 (wrap64 ((useTo cs s but k).2.1 + x.room)), .int .i64 (wrap64 ((useTo cs s but k).2.2 + x.hold))]) := hw5
        have HU5 : Hid (UseAt w5 (w.heap.size + 1) (useTo cs s but (k + 1))) := by rw [hw5, HV.out]; exact HU4.out.set (wrap64 ((useTo cs s but k).1 + 1), wrap64 ((useTo cs s but k).2.1 + x.room), wrap64 ((useTo cs s but k).2.2 + x.hold))
        have HT5 : Hid (w5.there w.heap.size 0 3) := by rw [hw5]; exact World.there_setCells HT4.out _ _ _
        have HB5 : Hid (Below w.heap.size w w5) := by rw [hw5]; exact below_setCells (by omega) _ _ _ HB4.out
        have hs5 : w.heap.size + 1 < w5.heap.size := by rw [hw5, size_setCells]; exact hs4
        have HTU : Hid (w4.there (w.heap.size + 1) 0 3) := HU4.out.2
        clear h hw5 HV HU4 HT4 HB4
        generalize useTo cs s but k = U at *
        go_wp2_with (first | (refine wpList_store_to rfl 156 _ _ rfl (w.heap.size + 1) 0 #[.int .i64 (wrap64 (U.1 + 1)), .int .i64 (wrap64 (U.2.1 + x.room)), .int .i64 (wrap64 (U.2.2 + x.hold))] rfl rfl HTU.out isz_use (by simp [Value.oneCell']) w5 HW5.out ?_))
        go_roundw
        case rel => exact ⟨k + 1, by omega, by go_num, hs5, HU5, HT5, HB5.out⟩
        case measure => simp [intOf]; omega
      · have HV : Hid (useTo cs s but (k + 1) = useTo cs s but k) := useTo_out HX.out h
        by_cases h1 : x.at_ = s
        · have hte := bts_eq h1
          have hkb : (k : Int) = but := by
            by_cases e : (k : Int) = but
            · exact e
            · exact absurd ⟨h1, e⟩ h
          clear h h1
          go_wp2_with fail
          go_roundw
          case rel => exact ⟨k + 1, by omega, by go_num, hs4, by rw [HV.out]; exact HU4, HT4, HB4.out⟩
          case measure => simp [intOf]; omega
        · have hte := bts_ne h1
          clear h
          go_wp2_with fail
          go_roundw
          case rel => exact ⟨k + 1, by omega, by go_num, hs4, by rw [HV.out]; exact HU4, HT4, HB4.out⟩
          case measure => simp [intOf]; omega
    · have hke : k = cs.length := by omega
      subst hke
      generalize hU : useTo cs s but cs.length = U at *
      have HUU : Hid (useTo cs s but cs.length = U) := hU
      clear hU
      have HRU : Hid (wr.rangeAt (w.heap.size + 1) 0 [.int .i64 U.1, .int .i64 U.2.1, .int .i64 U.2.2]) := hu.out.1
      obtain ⟨w5, hw5⟩ : ∃ w', w' = wr.setCells w.heap.size 0 [.int .i64 U.1, .int .i64 U.2.1, .int .i64 U.2.2] := ⟨_, rfl⟩
      have HW5 : Hid (w5 = wr.setCells w.heap.size 0 [.int .i64 U.1, .int .i64 U.2.1, .int .i64 U.2.2]) := hw5
      have HR5 : Hid (w5.rangeAt w.heap.size 0 [.int .i64 U.1, .int .i64 U.2.1, .int .i64 U.2.2]) := by rw [hw5]; exact World.rangeAt_setCells_same _ _ _ _ ht.out
      have HB5 : Hid (Below w.heap.size w w5) := by rw [hw5]; exact below_setCells (Nat.le_refl _) _ _ _ hbel
      clear hw5 hbel
      go_wp2_with (first | (refine wpList_load_mid rfl 156 _ rfl (w.heap.size + 1) 0 rfl [.int .i64 U.1, .int .i64 U.2.1, .int .i64 U.2.2] _ HRU.out Tryz.underlying156 rfl isz_use ?_) | (refine wpList_store_to rfl 156 _ _ rfl w.heap.size 0 #[.int .i64 U.1, .int .i64 U.2.1, .int .i64 U.2.2] rfl rfl ht.out isz_use (by simp [Value.oneCell']) w5 HW5.out ?_))
      exact bodyPost_ret (results_cell_mid rfl _ _ w.heap.size [.int .i64 U.1, .int .i64 U.2.1, .int .i64 U.2.2] _ rfl HR5.out Tryz.underlying156 rfl isz_use) rfl ⟨by rw [HUU.out], HB5.out⟩

end Go.Proofs.YtggbhggnemlpnaaGreat
