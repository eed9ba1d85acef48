/-
 Several texts in one: Spi, Rsn.
-/
import Derived.Test.YtmclbfkcbadnpaaGreatJ30
import Derived.Test.YtmclbfkcbadnpaaGreatJ39
import Derived.Test.YtmclbfkcbadnpaaGreatSpt
import Derived.Test.YtmclbfkcbadnpaaGreatFv2
import Derived.Maps.OwnOps
import Derived.Test.YtmclbfkcbadnpaaGreatJ37
namespace Go.Proofs.YtmclbfkcbadnpaaGreat
open Go.RowKit Go.WideMaps Go.Maps

theorem lit_inj {a b : Int} (h : (DataW.lit (Lit.int .i64 a) : DataW Unit) = .lit (.int .i64 b)) : a = b := by
 injection h with h
 injection h

theorem isz_Spot : (Tryz.prog.info? 63).map (·.size) = some 24 := by kernel_rfl

abbrev zeroSpot : Array Value := #[.pointer none, .int .i64 0, .string ⟨#[]⟩, .string ⟨#[]⟩, .int .i64 0, .int .i64 0, .int .i64 0, .int .i64 0, .string ⟨#[]⟩, .slice none 0 0, .int .i64 0, .string ⟨#[]⟩, .string ⟨#[]⟩, .string ⟨#[]⟩, .int .i64 0, .string ⟨#[]⟩, .string ⟨#[]⟩, .slice none 0 0, .int .i64 0, .int .i64 0, .bool false, .int .i64 0, .int .i64 0, .int .i64 0]

/-- what pilotSpotIn tells -/
def SpotRes (x : Flt) (a1 : Option Addr) (c1 : Nat) (a2 : Option Addr) (c2 : Nat) (a3 : Option Addr) (c3 : Nat) (lo : Nat) (cn bn : ByteArray) (W : World) (e : Ending) (w : World) : Prop :=
 (e = .returned (.tuple #[.agg zeroSpot, .bool false]) ∧ spotQ x cn bn = none) ∨
 (∃ p m1 m2 m3 m4 ci bi y b a7 c7 am cm, e = .returned (.tuple #[.agg (spotA p ci bi y a7 c7 b am cm (useTo x.copies b.name ci x.copies.length).1 (useTo x.copies b.name ci x.copies.length).2.1 (useTo x.copies b.name ci x.copies.length).2.2), .bool true]) ∧ validI x = true ∧ x.copies[ci]? = some y ∧ x.berths[bi]? = some b ∧ spotQ x cn bn = some (ci, bi) ∧ Found p m1 m2 m3 m4 x a1 c1 a2 c2 a3 c3 w ∧ W.heap.size ≤ p ∧ W.heap.size ≤ m4 ∧ SliceC LikC 2 lo W a7 y.likes ∧ SliceC StrC 1 lo W am b.marks)

theorem heap_setCells_other {g k : Nat} (h : k ≠ g) : ∀ (vs : List Value) (o : Nat) (w : World), (w.setCells g o vs).heap[k]? = w.heap[k]?
 | [], _, _ => rfl
 | v :: r, o, w => (heap_setCells_other h r (o + 1) _).trans (Below.heap_setCell w ⟨g, o, none⟩ v k h)

theorem ownsMap_cells {H : Type} {P : Program} {k : TypeId} {R : Value → Option (DataW H × List MemPlace)} {m n : Nat} {D : DataW H} {w : World} (h : w.ownsMap P k R m n D) {g : Nat} {cs : Array Value} {t : TypeId} (hz : Blk g cs t w) (o : Nat) (vs : List Value) : (w.setCells g o vs).ownsMap P k R m n D := by
 obtain ⟨es, clock, h1, h2, h3, h4⟩ := h
 have hne : m ≠ g := by
  rintro rfl
  have := h1.symm.trans (show w.heap[m]? = _ from hz)
  cases this
 exact ⟨es, clock, (heap_setCells_other hne vs o w).trans h1, h2, h3, h4⟩

theorem Found.cells {p m1 m2 m3 m4 : Nat} {x : Flt} {a1 : Option Addr} {c1 : Nat} {a2 : Option Addr} {c2 : Nat} {a3 : Option Addr} {c3 : Nat} {w : World} (h : Found p m1 m2 m3 m4 x a1 c1 a2 c2 a3 c3 w) {g : Nat} {cs : Array Value} {t : TypeId} (hz : Blk g cs t w) (hp : p ≠ g) (o : Nat) (vs : List Value) : Found p m1 m2 m3 m4 x a1 c1 a2 c2 a3 c3 (w.setCells g o vs) := by
 refine ⟨fun j v hj => ?_, by rw [size_setCells]; exact h.2.1, ownsMap_cells h.2.2.1 hz o vs, ownsMap_cells h.2.2.2.1 hz o vs, ownsMap_cells h.2.2.2.2.1 hz o vs, ?_⟩
 ·rw [World.cell?_of_block (w := w) (a := ⟨p, 0 + j, none⟩) (heap_setCells_other hp vs o w)]
  exact h.1 j v hj
 ·rw [heap_setCells_other ?_ vs o w]
  ·exact h.2.2.2.2.2
  ·rintro rfl
   have := h.2.2.2.2.2.symm.trans (show w.heap[m4]? = _ from hz)
   cases this

theorem results_cell_tmp {P : Program} {fn : Func} {p q : Tmp} {ty : TypeId} (h : fn.results = #[.cell p ty, .tmp q]) (tmps : Array Value) (w : World) (g : Nat) (cs : List Value) (d : TypeDesc)
  (hp : tmps.getD p undef = .pointer (some ⟨g, 0, none⟩)) (hc : w.rangeAt g 0 cs) (hu : P.underlying ty = some d) (hd : d.isRow = true) (hi : (P.info? ty).map (·.size) = some cs.length) :
  (results fn tmps).run P w = .ok (.tuple #[.agg cs.toArray, tmps.getD q undef]) w := by
 have hp' : tmps[p]?.getD undef = .pointer (some ⟨g, 0, none⟩) := by simpa using hp
 simp [results, h, hp', asAddr, run_loadVar_mid w g 0 ty cs d hc hu hd hi]

set_option maxHeartbeats 4000000 in
set_option maxRecDepth 100000 in
theorem spotIn_any (x : Flt) (a1 : Option Addr) (c1 : Nat) (a2 : Option Addr) (c2 : Nat) (a3 : Option Addr) (c3 : Nat) (lo : Nat) (cn bn : ByteArray) (w : World) (n1 : SliceC BrtC 6 lo w a1 x.berths) (n2 : SliceC SvcC 2 lo w a2 x.services) (n3 : SliceC CpyC 12 lo w a3 x.copies)
  (l1 : x.berths.length ≤ 1048576) (l2 : x.services.length ≤ 1048576) (l3 : x.copies.length ≤ 1048576) (hcn : cn.size ≤ maxLen) (hbn : bn.size ≤ maxLen) :
  Calls Tryz.prog 29 #[.agg #[.bool x.pack, .slice a1 x.berths.length c1, .slice a2 x.services.length c2, .slice a3 x.copies.length c3], .string cn, .string bn] w fun e w' => SpotRes x a1 c1 a2 c2 a3 c3 lo cn bn w e w' ∧ Below w.heap.size w w' := by
 have N1 := Hid.intro n1
 have N2 := Hid.intro n2
 have N3 := Hid.intro n3
 have hkc : keyOf Tryz.prog 9 (.string cn) = some (kOf cn) := keyOf_string_mk Tryz.underlying9 hcn
 have hkb : keyOf Tryz.prog 9 (.string bn) = some (kOf bn) := keyOf_string_mk Tryz.underlying9 hbn
 clear n1 n2 n3 hcn hbn
 go_enter Tryz.func29, Tryz.ntmps29
 go_wp2_with fail
 have e2 : Blk (w.heap.size + 1) #[.pointer none, .int .i64 0, .string ⟨#[]⟩, .string ⟨#[]⟩, .int .i64 0, .int .i64 0, .int .i64 0, .int .i64 0, .string ⟨#[]⟩, .slice none 0 0, .int .i64 0, .string ⟨#[]⟩, .string ⟨#[]⟩, .string ⟨#[]⟩, .int .i64 0, .string ⟨#[]⟩, .string ⟨#[]⟩, .slice none 0 0, .int .i64 0, .int .i64 0, .bool false, .int .i64 0, .int .i64 0, .int .i64 0] 63 ((w.alloc (Obj.cells #[.bool x.pack, .slice a1 x.berths.length c1, .slice a2 x.services.length c2, .slice a3 x.copies.length c3] 33)).alloc (Obj.cells #[.pointer none, .int .i64 0, .string ⟨#[]⟩, .string ⟨#[]⟩, .int .i64 0, .int .i64 0, .int .i64 0, .int .i64 0, .string ⟨#[]⟩, .slice none 0 0, .int .i64 0, .string ⟨#[]⟩, .string ⟨#[]⟩, .string ⟨#[]⟩, .int .i64 0, .string ⟨#[]⟩, .string ⟨#[]⟩, .slice none 0 0, .int .i64 0, .int .i64 0, .bool false, .int .i64 0, .int .i64 0, .int .i64 0] 63)) := by
  have h := Blk.alloc (w.alloc (Obj.cells #[.bool x.pack, .slice a1 x.berths.length c1, .slice a2 x.services.length c2, .slice a3 x.copies.length c3] 33)) #[.pointer none, .int .i64 0, .string ⟨#[]⟩, .string ⟨#[]⟩, .int .i64 0, .int .i64 0, .int .i64 0, .int .i64 0, .string ⟨#[]⟩, .slice none 0 0, .int .i64 0, .string ⟨#[]⟩, .string ⟨#[]⟩, .string ⟨#[]⟩, .int .i64 0, .string ⟨#[]⟩, .string ⟨#[]⟩, .slice none 0 0, .int .i64 0, .int .i64 0, .bool false, .int .i64 0, .int .i64 0, .int .i64 0] 63
  simpa using h
 have e3 : Below w.heap.size w ((w.alloc (Obj.cells #[.bool x.pack, .slice a1 x.berths.length c1, .slice a2 x.services.length c2, .slice a3 x.copies.length c3] 33)).alloc (Obj.cells #[.pointer none, .int .i64 0, .string ⟨#[]⟩, .string ⟨#[]⟩, .int .i64 0, .int .i64 0, .int .i64 0, .int .i64 0, .string ⟨#[]⟩, .slice none 0 0, .int .i64 0, .string ⟨#[]⟩, .string ⟨#[]⟩, .string ⟨#[]⟩, .int .i64 0, .string ⟨#[]⟩, .string ⟨#[]⟩, .slice none 0 0, .int .i64 0, .int .i64 0, .bool false, .int .i64 0, .int .i64 0, .int .i64 0] 63)) := ((Below.refl _ w).alloc (Nat.le_refl _) _).alloc (by simp) _
 have HZ0 := Hid.intro e2
 have HB0 := Hid.intro e3
 clear e2 e3
 generalize (w.alloc (Obj.cells #[.bool x.pack, .slice a1 x.berths.length c1, .slice a2 x.services.length c2, .slice a3 x.copies.length c3] 33)).alloc (Obj.cells #[.pointer none, .int .i64 0, .string ⟨#[]⟩, .string ⟨#[]⟩, .int .i64 0, .int .i64 0, .int .i64 0, .int .i64 0, .string ⟨#[]⟩, .slice none 0 0, .int .i64 0, .string ⟨#[]⟩, .string ⟨#[]⟩, .string ⟨#[]⟩, .int .i64 0, .string ⟨#[]⟩, .string ⟨#[]⟩, .slice none 0 0, .int .i64 0, .int .i64 0, .bool false, .int .i64 0, .int .i64 0, .int .i64 0] 63) = w0 at *
 refine (findValid_any x a1 c1 a2 c2 a3 c3 lo _ (N1.out.below BrtC.holds HB0.out (Nat.le_refl _)) (N2.out.below SvcC.holds HB0.out (Nat.le_refl _)) (N3.out.below CpyC.holds HB0.out (Nat.le_refl _)) l1 l2 l3).mono ?_
 rintro e w1 ⟨v, rfl, hb1, hfd⟩
 have HB1 : Hid (Below w.heap.size w w1) := HB0.out.trans (hb1.mono HB0.out.size)
 have HZ1 := Hid.intro (HZ0.out.below hb1 HZ0.out.lt)
 have HS0 : Hid (w.heap.size ≤ w0.heap.size) := HB0.out.size
 have HS2 : Hid (w.heap.size + 1 < w0.heap.size) := HZ0.out.lt
 clear hb1 HB0 HZ0
 have HT := Hid.intro HZ1.out.there
 have HR10 := Hid.intro (World.rangeAt_setCells_same w1 (w.heap.size + 1) 0 [.pointer none, .int .i64 0, .string ⟨#[]⟩, .string ⟨#[]⟩, .int .i64 0, .int .i64 0, .int .i64 0, .int .i64 0, .string ⟨#[]⟩, .slice none 0 0, .int .i64 0, .string ⟨#[]⟩, .string ⟨#[]⟩, .string ⟨#[]⟩, .int .i64 0, .string ⟨#[]⟩, .string ⟨#[]⟩, .slice none 0 0, .int .i64 0, .int .i64 0, .bool false, .int .i64 0, .int .i64 0, .int .i64 0] HZ1.out.there)
 have HB10 : Hid (Below w.heap.size w (w1.setCells (w.heap.size + 1) 0 [.pointer none, .int .i64 0, .string ⟨#[]⟩, .string ⟨#[]⟩, .int .i64 0, .int .i64 0, .int .i64 0, .int .i64 0, .string ⟨#[]⟩, .slice none 0 0, .int .i64 0, .string ⟨#[]⟩, .string ⟨#[]⟩, .string ⟨#[]⟩, .int .i64 0, .string ⟨#[]⟩, .string ⟨#[]⟩, .slice none 0 0, .int .i64 0, .int .i64 0, .bool false, .int .i64 0, .int .i64 0, .int .i64 0])) := below_setCells (by omega) _ _ _ HB1.out
 obtain ⟨w10, HW10⟩ : ∃ w10, Hid (w10 = w1.setCells (w.heap.size + 1) 0 [.pointer none, .int .i64 0, .string ⟨#[]⟩, .string ⟨#[]⟩, .int .i64 0, .int .i64 0, .int .i64 0, .int .i64 0, .string ⟨#[]⟩, .slice none 0 0, .int .i64 0, .string ⟨#[]⟩, .string ⟨#[]⟩, .string ⟨#[]⟩, .int .i64 0, .string ⟨#[]⟩, .string ⟨#[]⟩, .slice none 0 0, .int .i64 0, .int .i64 0, .bool false, .int .i64 0, .int .i64 0, .int .i64 0]) := ⟨_, rfl⟩
 rw [← HW10.out] at HR10 HB10
 cases hv : validI x with
 | false =>
  have HS := Hid.intro (spot_bad (cn := cn) (bn := bn) hv)
  clear hfd hv
  go_wp2_with (first | (refine wpList_store_to rfl 63 _ _ rfl (w.heap.size + 1) 0 #[.pointer none, .int .i64 0, .string ⟨#[]⟩, .string ⟨#[]⟩, .int .i64 0, .int .i64 0, .int .i64 0, .int .i64 0, .string ⟨#[]⟩, .slice none 0 0, .int .i64 0, .string ⟨#[]⟩, .string ⟨#[]⟩, .string ⟨#[]⟩, .int .i64 0, .string ⟨#[]⟩, .string ⟨#[]⟩, .slice none 0 0, .int .i64 0, .int .i64 0, .bool false, .int .i64 0, .int .i64 0, .int .i64 0] rfl rfl HT.out isz_Spot (by simp [Value.oneCell']) w10 HW10.out ?_))
  exact bodyPost_ret (results_cell_tmp rfl _ _ (w.heap.size + 1) [.pointer none, .int .i64 0, .string ⟨#[]⟩, .string ⟨#[]⟩, .int .i64 0, .int .i64 0, .int .i64 0, .int .i64 0, .string ⟨#[]⟩, .slice none 0 0, .int .i64 0, .string ⟨#[]⟩, .string ⟨#[]⟩, .string ⟨#[]⟩, .int .i64 0, .string ⟨#[]⟩, .string ⟨#[]⟩, .slice none 0 0, .int .i64 0, .int .i64 0, .bool false, .int .i64 0, .int .i64 0, .int .i64 0] _ rfl HR10.out Tryz.underlying63 rfl isz_Spot) rfl ⟨Or.inl ⟨rfl, HS.out⟩, HB10.out⟩
 | true =>
  obtain ⟨p, m1, m2, m3, m4, rfl, hp, hm4, hF⟩ := hfd hv
  have HF := Hid.intro hF
  have HV := Hid.intro hv
  have HP : Hid (w.heap.size ≤ p) := Nat.le_trans HS0.out hp
  have HP2 : Hid (w.heap.size + 1 < p) := Nat.lt_of_lt_of_le HS2.out hp
  have HM4 : Hid (w.heap.size ≤ m4) := Nat.le_trans HS0.out hm4
  have O3 := Hid.intro HF.out.2.2.2.2.1
  have O1 := Hid.intro HF.out.2.2.1
  have p4 : w1.cell? ⟨p, 4, none⟩ = some (.map (some m1)) := HF.out.1 4 _ rfl
  have p6 : w1.cell? ⟨p, 6, none⟩ = some (.map (some m3)) := HF.out.1 6 _ rfl
  have HC1 : Hid (has (placesTo (cpN x) x.copies.length) (kOf cn) = (lastOf (cpN x) cn x.copies.length).isSome) := has_places _ _ _
  have HC2 : Hid ((placesTo (cpN x) x.copies.length).atKey (kOf cn) (.lit (.int .i64 0)) = .lit (.int .i64 (((lastOf (cpN x) cn x.copies.length).getD 0 : Nat) : Int))) := at_places _ _ _
  have HD1 : Hid (has (placesTo (brN x) x.berths.length) (kOf bn) = (lastOf (brN x) bn x.berths.length).isSome) := has_places _ _ _
  have HD2 : Hid ((placesTo (brN x) x.berths.length).atKey (kOf bn) (.lit (.int .i64 0)) = .lit (.int .i64 (((lastOf (brN x) bn x.berths.length).getD 0 : Nat) : Int))) := at_places _ _ _
  obtain ⟨_, _, _, hcN, _, _⟩ := valid_parts HV.out
  obtain ⟨_, hbN, _, _⟩ := valid_more HV.out
  clear hF hfd hv hp hm4
  have hc1 := HC1.out
  have hc2 := HC2.out
  have hb1 := HD1.out
  have hb2 := HD2.out
  clear HC1 HC2 HD1 HD2
  generalize placesTo (cpN x) x.copies.length = D3 at *
  generalize placesTo (brN x) x.berths.length = D1 at *
  cases hci : lastOf (cpN x) cn x.copies.length with
  | none =>
   have HS := Hid.intro (spot_noC (bn := bn) hci)
   rw [hci] at hc1 hc2
   simp only [Option.isSome_none, Option.getD_none] at hc1 hc2
   clear hci hcN hbN
   go_wp2_with (first | (at_lookup; refine wpList_lookup_own_ok_int _ rfl _ _ 75 rfl 9 3 .i64 law_str Tryz.underlying75 Tryz.underlying3 (zero_int _) m3 _ _ rfl O3.out _ _ rfl hkc ?_; intro c hcc _; obtain rfl := lit_inj (hcc.symm.trans hc2); rw [hc1]) | (at_lookup; refine wpList_lookup_own_ok_int _ rfl _ _ 75 rfl 9 3 .i64 law_str Tryz.underlying75 Tryz.underlying3 (zero_int _) m1 _ _ rfl O1.out _ _ rfl hkb ?_; intro c' hcc' _; obtain rfl := lit_inj (hcc'.symm.trans hb2); rw [hb1]) | (refine wpList_store_to rfl 63 _ _ rfl (w.heap.size + 1) 0 #[.pointer none, .int .i64 0, .string ⟨#[]⟩, .string ⟨#[]⟩, .int .i64 0, .int .i64 0, .int .i64 0, .int .i64 0, .string ⟨#[]⟩, .slice none 0 0, .int .i64 0, .string ⟨#[]⟩, .string ⟨#[]⟩, .string ⟨#[]⟩, .int .i64 0, .string ⟨#[]⟩, .string ⟨#[]⟩, .slice none 0 0, .int .i64 0, .int .i64 0, .bool false, .int .i64 0, .int .i64 0, .int .i64 0] rfl rfl HT.out isz_Spot (by simp [Value.oneCell']) w10 HW10.out ?_))
   exact bodyPost_ret (results_cell_tmp rfl _ _ (w.heap.size + 1) [.pointer none, .int .i64 0, .string ⟨#[]⟩, .string ⟨#[]⟩, .int .i64 0, .int .i64 0, .int .i64 0, .int .i64 0, .string ⟨#[]⟩, .slice none 0 0, .int .i64 0, .string ⟨#[]⟩, .string ⟨#[]⟩, .string ⟨#[]⟩, .int .i64 0, .string ⟨#[]⟩, .string ⟨#[]⟩, .slice none 0 0, .int .i64 0, .int .i64 0, .bool false, .int .i64 0, .int .i64 0, .int .i64 0] _ rfl HR10.out Tryz.underlying63 rfl isz_Spot) rfl ⟨Or.inl ⟨rfl, HS.out⟩, HB10.out⟩
  | some ci =>
   obtain ⟨_, y, hy, hyn⟩ := idxC_some hcN hci
   clear hyn
   cases hbi : lastOf (brN x) bn x.berths.length with
   | none =>
    have HS := Hid.intro (spot_noB (cn := cn) hbi)
    rw [hci] at hc1 hc2
    rw [hbi] at hb1 hb2
    simp only [Option.isSome_none, Option.getD_none, Option.isSome_some, Option.getD_some] at hc1 hc2 hb1 hb2
    clear hci hbi hcN hbN hy
    go_wp2_with (first | (at_lookup; refine wpList_lookup_own_ok_int _ rfl _ _ 75 rfl 9 3 .i64 law_str Tryz.underlying75 Tryz.underlying3 (zero_int _) m3 _ _ rfl O3.out _ _ rfl hkc ?_; intro c hcc _; obtain rfl := lit_inj (hcc.symm.trans hc2); rw [hc1]) | (at_lookup; refine wpList_lookup_own_ok_int _ rfl _ _ 75 rfl 9 3 .i64 law_str Tryz.underlying75 Tryz.underlying3 (zero_int _) m1 _ _ rfl O1.out _ _ rfl hkb ?_; intro c' hcc' _; obtain rfl := lit_inj (hcc'.symm.trans hb2); rw [hb1]) | (refine wpList_store_to rfl 63 _ _ rfl (w.heap.size + 1) 0 #[.pointer none, .int .i64 0, .string ⟨#[]⟩, .string ⟨#[]⟩, .int .i64 0, .int .i64 0, .int .i64 0, .int .i64 0, .string ⟨#[]⟩, .slice none 0 0, .int .i64 0, .string ⟨#[]⟩, .string ⟨#[]⟩, .string ⟨#[]⟩, .int .i64 0, .string ⟨#[]⟩, .string ⟨#[]⟩, .slice none 0 0, .int .i64 0, .int .i64 0, .bool false, .int .i64 0, .int .i64 0, .int .i64 0] rfl rfl HT.out isz_Spot (by simp [Value.oneCell']) w10 HW10.out ?_))
    exact bodyPost_ret (results_cell_tmp rfl _ _ (w.heap.size + 1) [.pointer none, .int .i64 0, .string ⟨#[]⟩, .string ⟨#[]⟩, .int .i64 0, .int .i64 0, .int .i64 0, .int .i64 0, .string ⟨#[]⟩, .slice none 0 0, .int .i64 0, .string ⟨#[]⟩, .string ⟨#[]⟩, .string ⟨#[]⟩, .int .i64 0, .string ⟨#[]⟩, .string ⟨#[]⟩, .slice none 0 0, .int .i64 0, .int .i64 0, .bool false, .int .i64 0, .int .i64 0, .int .i64 0] _ rfl HR10.out Tryz.underlying63 rfl isz_Spot) rfl ⟨Or.inl ⟨rfl, HS.out⟩, HB10.out⟩
   | some bi =>
    obtain ⟨_, b, hb, hbn⟩ := idxB_some hbN hbi
    clear hbn
    have HS := Hid.intro (spot_yes HV.out hci hbi)
    rw [hci] at hc1 hc2
    rw [hbi] at hb1 hb2
    simp only [Option.isSome_some, Option.getD_some] at hc1 hc2 hb1 hb2
    have HY := Hid.intro hy
    have HBY := Hid.intro hb
    clear hci hbi hcN hbN hy hb HT HR10 HB10 HW10
    go_wp2_with (first | (at_lookup; refine wpList_lookup_own_ok_int _ rfl _ _ 75 rfl 9 3 .i64 law_str Tryz.underlying75 Tryz.underlying3 (zero_int _) m3 _ _ rfl O3.out _ _ rfl hkc ?_; intro c hcc _; obtain rfl := lit_inj (hcc.symm.trans hc2); rw [hc1]) | (at_lookup; refine wpList_lookup_own_ok_int _ rfl _ _ 75 rfl 9 3 .i64 law_str Tryz.underlying75 Tryz.underlying3 (zero_int _) m1 _ _ rfl O1.out _ _ rfl hkb ?_; intro c' hcc' _; obtain rfl := lit_inj (hcc'.symm.trans hb2); rw [hb1]))
    refine (spotOf_any p x a1 c1 a2 c2 a3 c3 lo ci bi y b _ HF.out.ins (N1.out.below BrtC.holds HB1.out (Nat.le_refl _)) (N3.out.below CpyC.holds HB1.out (Nat.le_refl _)) l3 HY.out HBY.out).mono ?_
    rintro e w2 ⟨a7, c7, am, cm, rfl, _, _, ⟨cb, co, bb, bo, ea, eb, hs7, hsm⟩, hb2'⟩
    have S7 : Hid (SliceC LikC 2 lo w a7 y.likes) := by
     obtain ⟨b', o', e, _, hl, hc⟩ := N3.out.at HY.out
     rw [ea] at e
     cases e
     obtain ⟨a7', c7', _, _, _, _, _, _, _, q7, _, _, _, _, _, _, _, _, _, _, n7⟩ := hc
     rw [HB1.out.cell (p := ⟨cb, co + ci * 12 + 7, none⟩) hl] at hs7
     have hq := (show w.cell? ⟨cb, co + ci * 12 + 7, none⟩ = _ from q7).symm.trans hs7
     simp only [Option.some.injEq, Value.slice.injEq] at hq
     obtain ⟨rfl, _, _⟩ := hq
     exact n7
    have SM : Hid (SliceC StrC 1 lo w am b.marks) := by
     obtain ⟨b', o', e, _, hl, hc⟩ := N1.out.at HBY.out
     rw [eb] at e
     cases e
     obtain ⟨am', cm', _, _, r2, _, _, _, _, _, nm⟩ := hc
     rw [HB1.out.cell (p := ⟨bb, bo + bi * 6 + 2, none⟩) hl] at hsm
     have hq := (show w.cell? ⟨bb, bo + bi * 6 + 2, none⟩ = _ from r2).symm.trans hsm
     simp only [Option.some.injEq, Value.slice.injEq] at hq
     obtain ⟨rfl, _, _⟩ := hq
     exact nm
    have HB2 : Hid (Below w.heap.size w w2) := HB1.out.trans (hb2'.mono HB1.out.size)
    have HZ2 := Hid.intro (HZ1.out.below hb2' HZ1.out.lt)
    have HF2 := Hid.intro (HF.out.below hb2')
    clear hs7 hsm ea eb hb2' p4 p6 hc1 hc2 hb1 hb2
    generalize hU : useTo x.copies b.name ci x.copies.length = V
    have HU := Hid.intro hU
    clear hU
    have HT2 := Hid.intro HZ2.out.there
    have hR5 := World.rangeAt_setCells_same w2 (w.heap.size + 1) 0 (spotA p ci bi y a7 c7 b am cm V.1 V.2.1 V.2.2).toList HZ2.out.there
    have hB5 : Below w.heap.size w (w2.setCells (w.heap.size + 1) 0 (spotA p ci bi y a7 c7 b am cm V.1 V.2.1 V.2.2).toList) := below_setCells (by omega) _ _ _ HB2.out
    have hF5 := HF2.out.cells HZ2.out (by have := HP2.out; omega) 0 (spotA p ci bi y a7 c7 b am cm V.1 V.2.1 V.2.2).toList
    obtain ⟨w5, HW5⟩ : ∃ w5, Hid (w5 = w2.setCells (w.heap.size + 1) 0 (spotA p ci bi y a7 c7 b am cm V.1 V.2.1 V.2.2).toList) := ⟨_, rfl⟩
    rw [← HW5.out] at hR5 hB5 hF5
    have HR5 := Hid.intro hR5
    have HB5 := Hid.intro hB5
    have HF5 := Hid.intro hF5
    clear hR5 hB5 hF5
    go_wp2_with (first | (refine wpList_store_to rfl 63 _ _ rfl (w.heap.size + 1) 0 (spotA p ci bi y a7 c7 b am cm V.1 V.2.1 V.2.2) rfl rfl HT2.out isz_Spot (by simp [Value.oneCell']) w5 HW5.out ?_))
    refine bodyPost_ret (results_cell_tmp rfl _ _ (w.heap.size + 1) (spotA p ci bi y a7 c7 b am cm V.1 V.2.1 V.2.2).toList _ rfl HR5.out Tryz.underlying63 rfl isz_Spot) rfl ⟨Or.inr ⟨p, m1, m2, m3, m4, ci, bi, y, b, a7, c7, am, cm, ?_, HV.out, HY.out, HBY.out, HS.out, HF5.out, HP.out, HM4.out, S7.out, SM.out⟩, HB5.out⟩
    rw [HU.out]
    rfl

end Go.Proofs.YtmclbfkcbadnpaaGreat

namespace Go.Proofs.YtmclbfkcbadnpaaGreat
open Go.RowKit Go.WideMaps Go.Maps

/-- what stays as it is while a spot is looked at -/
def SpotK (W : World) (lo p m4 ci bi : Nat) (x : Flt) (a1 a3 : Option Addr) (y : Cpy) (a7 : Option Addr) (b : Brt) (am : Option Addr) : Prop :=
 W.heap.size ≤ p ∧ W.heap.size ≤ m4 ∧ SliceC BrtC 6 lo W a1 x.berths ∧ SliceC CpyC 12 lo W a3 x.copies ∧ SliceC LikC 2 lo W a7 y.likes ∧ SliceC StrC 1 lo W am b.marks ∧ validI x = true ∧ x.copies[ci]? = some y ∧ x.berths[bi]? = some b

/-- a reason's contract -/
def Says (f : Nat) (t : Bool) (W : World) (p m1 m2 m3 m4 ci bi : Nat) (x : Flt) (a1 : Option Addr) (c1 : Nat) (a2 : Option Addr) (c2 : Nat) (a3 : Option Addr) (c3 : Nat) (y : Cpy) (a7 : Option Addr) (c7 : Nat) (b : Brt) (am : Option Addr) (cm : Nat) (u1 u2 u3 : Int) : Prop :=
 ∀ (n : Nat) (w : World), n ≤ 900 → Below W.heap.size W w → FoundM p m1 m2 m3 m4 n x a1 c1 a2 c2 a3 c3 w → Calls Tryz.prog f #[.agg (spotA p ci bi y a7 c7 b am cm u1 u2 u3)] w fun e w' => e = .returned (.bool t) ∧ MemoAt m4 (n + 1) x.berths w' ∧ But m4 w.heap.size w w'

set_option maxHeartbeats 1000000 in
set_option maxRecDepth 100000 in
theorem closed_any (p ci bi : Nat) (y : Cpy) (a7 : Option Addr) (c7 : Nat) (b : Brt) (am : Option Addr) (cm : Nat) (u1 u2 u3 : Int) (w : World) :
  Calls Tryz.prog 62 #[.agg (spotA p ci bi y a7 c7 b am cm u1 u2 u3)] w fun e w' => e = .returned (.bool b.closed) ∧ Below w.heap.size w w' := by
 go_enter Tryz.func62, Tryz.ntmps62
 go_wp2_with fail
 go_ret
 exact ⟨rfl, by go_grown⟩

theorem isEmpty_of {s : ByteArray} (h : s = ⟨#[]⟩) : s.toList.isEmpty = true := by rw [empty_toList h]; rfl
theorem isEmpty_not {s : ByteArray} (h : ¬ s = ⟨#[]⟩) : s.toList.isEmpty = false := by
 cases e : s.toList with
 | nil => exact absurd e (nonempty_toList h)
 | cons a l => rfl

set_option maxHeartbeats 1000000 in
set_option maxRecDepth 100000 in
theorem elsewhere_any (p ci bi : Nat) (y : Cpy) (a7 : Option Addr) (c7 : Nat) (b : Brt) (am : Option Addr) (cm : Nat) (u1 u2 u3 : Int) (w : World) :
  Calls Tryz.prog 68 #[.agg (spotA p ci bi y a7 c7 b am cm u1 u2 u3)] w fun e w' => e = .returned (.bool (elsI y b)) ∧ Below w.heap.size w w' := by
 by_cases h1 : y.fixed = ⟨#[]⟩
 ·have HE : Hid (elsI y b = false) := by show _ = _; unfold elsI; rw [decide_eq_false (fun h => h h1)]; rfl
  have t1 := empty_toList h1
  have t2 := isEmpty_of h1
  clear h1
  go_enter Tryz.func68, Tryz.ntmps68
  go_wp2_with fail
  go_ret
  exact ⟨ret_bool HE.out.symm, by go_grown⟩
 ·have t1 := nonempty_toList h1
  have t2 := isEmpty_not h1
  by_cases h2 : y.fixed = b.name
  ·have HE : Hid (elsI y b = false) := by show _ = _; unfold elsI; rw [decide_eq_false (p := ¬ y.fixed = b.name) (fun h => h h2), Bool.and_false]
   have t3 := bts_eq h2
   clear h1 h2
   go_enter Tryz.func68, Tryz.ntmps68
   go_wp2_with fail
   go_ret
   exact ⟨ret_bool HE.out.symm, by go_grown⟩
  ·have HE : Hid (elsI y b = true) := by show _ = _; unfold elsI; rw [decide_eq_true h1, decide_eq_true h2]; rfl
   have t3 := bts_ne h2
   clear h1 h2
   go_enter Tryz.func68, Tryz.ntmps68
   go_wp2_with fail
   go_ret
   exact ⟨ret_bool HE.out.symm, by go_grown⟩

set_option maxHeartbeats 1000000 in
set_option maxRecDepth 100000 in
theorem full_any (p ci bi : Nat) (y : Cpy) (a7 : Option Addr) (c7 : Nat) (b : Brt) (am : Option Addr) (cm : Nat) (u1 u2 u3 : Int) (w : World) :
  Calls Tryz.prog 72 #[.agg (spotA p ci bi y a7 c7 b am cm u1 u2 u3)] w fun e w' => e = .returned (.bool (decide (10 ≤ u1))) ∧ Below w.heap.size w w' := by
 by_cases h : 10 ≤ u1
 ·rw [decide_eq_true h]
  go_enter Tryz.func72, Tryz.ntmps72
  go_wp2_with fail
  go_ret
  exact ⟨rfl, by go_grown⟩
 ·rw [decide_eq_false h]
  go_enter Tryz.func72, Tryz.ntmps72
  go_wp2_with fail
  go_ret
  exact ⟨rfl, by go_grown⟩

set_option maxHeartbeats 1000000 in
set_option maxRecDepth 100000 in
theorem roomless_any (p ci bi : Nat) (y : Cpy) (a7 : Option Addr) (c7 : Nat) (b : Brt) (am : Option Addr) (cm : Nat) (u1 u2 u3 : Int) (w : World) (h0 : 0 ≤ u2) (h1 : u2 ≤ 60000) (h2 : 0 ≤ y.room) (h3 : y.room ≤ 1000) :
  Calls Tryz.prog 73 #[.agg (spotA p ci bi y a7 c7 b am cm u1 u2 u3)] w fun e w' => e = .returned (.bool (decide (b.room < u2 + y.room))) ∧ Below w.heap.size w w' := by
 by_cases h : b.room < u2 + y.room
 ·rw [decide_eq_true h]
  go_enter Tryz.func73, Tryz.ntmps73
  go_wp2_with fail
  go_ret
  exact ⟨rfl, by go_grown⟩
 ·rw [decide_eq_false h]
  go_enter Tryz.func73, Tryz.ntmps73
  go_wp2_with fail
  go_ret
  exact ⟨rfl, by go_grown⟩

set_option maxHeartbeats 1000000 in
set_option maxRecDepth 100000 in
theorem holdless_any (p ci bi : Nat) (y : Cpy) (a7 : Option Addr) (c7 : Nat) (b : Brt) (am : Option Addr) (cm : Nat) (u1 u2 u3 : Int) (w : World) (h0 : 0 ≤ u3) (h1 : u3 ≤ 60000) (h2 : 0 ≤ y.hold) (h3 : y.hold ≤ 1000) :
  Calls Tryz.prog 74 #[.agg (spotA p ci bi y a7 c7 b am cm u1 u2 u3)] w fun e w' => e = .returned (.bool (decide (b.hold < u3 + y.hold))) ∧ Below w.heap.size w w' := by
 by_cases h : b.hold < u3 + y.hold
 ·rw [decide_eq_true h]
  go_enter Tryz.func74, Tryz.ntmps74
  go_wp2_with fail
  go_ret
  exact ⟨rfl, by go_grown⟩
 ·rw [decide_eq_false h]
  go_enter Tryz.func74, Tryz.ntmps74
  go_wp2_with fail
  go_ret
  exact ⟨rfl, by go_grown⟩

set_option maxHeartbeats 1000000 in
set_option maxRecDepth 100000 in
theorem marked_any (W : World) (lo p m1 m2 m3 m4 ci bi : Nat) (x : Flt) (a1 : Option Addr) (c1 : Nat) (a2 : Option Addr) (c2 : Nat) (a3 : Option Addr) (c3 : Nat) (y : Cpy) (a7 : Option Addr) (c7 : Nat) (b : Brt) (am : Option Addr) (cm : Nat) (u1 u2 u3 : Int) (hK : SpotK W lo p m4 ci bi x a1 a3 y a7 b am) (hsel : y.select.size ≤ maxLen) :
  Says 69 (!asksI y.select b.marks b.zone) W p m1 m2 m3 m4 ci bi x a1 c1 a2 c2 a3 c3 y a7 c7 b am cm u1 u2 u3 := by
 intro n w hn hW hF
 obtain ⟨_, _, _, _, _, nm, hv, _, hb⟩ := hK
 obtain ⟨l1, _, hbr, _⟩ := valid_more hv
 obtain ⟨_, hbz, _, hmk⟩ := hbr bi b hb
 have hbi : bi ≤ 1048576 := by have := lt_of_some hb; omega
 have hml := marks_few hmk
 have hz := name_short hbz
 have NM := Hid.intro nm
 have HB := Hid.intro hb
 have HW := Hid.intro hW
 have HF := Hid.intro hF
 have HS := Hid.intro hsel
 clear hv hbr hbz hmk nm hb hW hF hsel
 go_enter Tryz.func69, Tryz.ntmps69
 go_upto_region 1 with fail
 have hb0 : Below w.heap.size w (w.alloc (Obj.cells (spotA p ci bi y a7 c7 b am cm u1 u2 u3) 63)) := (Below.refl _ w).alloc (Nat.le_refl _) _
 have HX : Hid (Blk w.heap.size (spotA p ci bi y a7 c7 b am cm u1 u2 u3) 63 (w.alloc (Obj.cells (spotA p ci bi y a7 c7 b am cm u1 u2 u3) 63))) := Blk.alloc _ _ _
 have HF0 := Hid.intro (HF.out.below hb0)
 have HW0 := Hid.intro (HW.out.trans (hb0.mono HW.out.size))
 have HB0 := Hid.intro hb0
 have s8 : (w.alloc (Obj.cells (spotA p ci bi y a7 c7 b am cm u1 u2 u3) 63)).cell? ⟨w.heap.size, 8, none⟩ = some (.string y.select) := HX.out.cell rfl
 generalize w.alloc (Obj.cells (spotA p ci bi y a7 c7 b am cm u1 u2 u3) 63) = w0 at *
 clear hb0
 go_wp2_with (first | (refine wpList_load_mid rfl 63 _ rfl w.heap.size 0 (by first | rfl | (simp [go_sem]; done)) (spotA p ci bi y a7 c7 b am cm u1 u2 u3).toList _ HX.out.rangeA Tryz.underlying63 rfl isz_Spot ?_))
 obtain ⟨n', D, hn', o4, hm⟩ := HF0.out.memo
 refine (asf_any p m4 ci bi n' y a7 c7 b am cm u1 u2 u3 x.berths D y.select lo _ (HF0.out.1 7 _ rfl) o4 hm HB.out hbi (by omega) (NM.out.below StrC.holds HW0.out (Nat.le_refl _)) hml hz HS.out).mono ?_
 rintro e w5 ⟨rfl, D5, ho5, hm5, hb5⟩
 have HM5 : Hid (MemoAt m4 (n + 1) x.berths w5) := ⟨n' + 1, D5, by omega, ho5, hm5⟩
 have HB5 : Hid (But m4 w.heap.size w w5) := (But.of_below HB0.out).trans (hb5.mono HB0.out.size)
 clear o4 hm ho5 hm5 hb5
 obtain ⟨q, hq⟩ : ∃ q, asksI y.select b.marks b.zone = q := ⟨_, rfl⟩
 have HQ := Hid.intro hq
 rw [hq]
 clear hq
 cases q
 all_goals
  go_wp2_with fail
  go_ret
  exact ⟨ret_bool (by rw [HQ.out]; rfl), HM5.out, HB5.out⟩

end Go.Proofs.YtmclbfkcbadnpaaGreat
