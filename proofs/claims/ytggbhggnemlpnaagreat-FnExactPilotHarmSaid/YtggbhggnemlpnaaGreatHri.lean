/-
  The harm of copies that go, by the program.
-/
import Derived.Test.YtggbhggnemlpnaaGreatHrt
import Derived.Test.YtggbhggnemlpnaaGreatJ44
import Derived.Test.YtggbhggnemlpnaaGreatJ45
namespace Go.Proofs.YtggbhggnemlpnaaGreat
open Go.RowKit Go.WideMaps Go.Maps Go.Shelf

/-- the comparison: the other way round -/
def cfD (x y : Int) : Int := Lib.compareInt y x

theorem ltD (x y : Int) : ltOf cfD x y = decide (y < x) := by
  unfold ltOf cfD Lib.compareInt
  by_cases h1 : y < x
  · simp [h1]
  · by_cases h2 : x < y <;> simp [h1, h2]
theorem swoD : Go.Sort.SWO (ltOf cfD) := ⟨fun x => by rw [ltD]; simp, fun x y z h1 h2 => by rw [ltD] at *; simp at *; omega, fun x y z h1 h2 => by rw [ltD] at *; simp at *; omega⟩
theorem totD (x y : Int) (h1 : ltOf cfD x y = false) (h2 : ltOf cfD y x = false) : x = y := by rw [ltD] at *; simp at *; omega
theorem geD : (fun x y : Int => !ltOf cfD y x) = fun x y => decide (y ≤ x) := by
  funext x y
  rw [ltD]
  by_cases h : y ≤ x
  · have h' : ¬ x < y := by omega
    simp [h, h']
  · have h' : x < y := by omega
    simp [h, h']

set_option maxHeartbeats 1000000 in
theorem cmpD_any (x y : Int) (W : World) : Calls Tryz.prog 72 #[.int .i64 x, .int .i64 y] W fun e w' => e = .returned (.int .i64 (cfD x y)) ∧ ∃ q, w' = W.drewN q := by
  have hcon := AnyG.cmp_Compare_int cmpL y x W
  change Calls Tryz.prog 73 _ _ _ at hcon
  unfold cfD
  generalize Lib.compareInt y x = r at hcon ⊢
  go_enter Tryz.func72, Tryz.ntmps72
  go_wp2_with (go_at_call 73; refine hcon.mono ?_; rintro e w' ⟨rfl, rfl⟩)
  go_ret
  exact ⟨rfl, 0, rfl⟩

theorem sortD_some {base g cap : Nat} {zs : List Int} {w : World} (h : w.ownsRow base 3 1 (.slice (some ⟨g, 0, none⟩) zs.length cap) zs.length (inH zs)) (hs : zs.length ≤ 1048576) :
    Calls Tryz.prog 71 #[.slice (some ⟨g, 0, none⟩) zs.length cap, .func (.func 72) #[] #[]] w fun e w' => e = .returned (.tuple #[]) ∧ w'.ownsRow base 3 1 (.slice (some ⟨g, 0, none⟩) zs.length cap) zs.length (inH (srtD zs)) ∧ w.grownBy w' (some g) := by
  rcases h.2 with ⟨h1, _⟩ | ⟨g', cap', cur, h1, hbase, hb, h4, h5, h6, h7⟩
  · cases h1
  cases h1
  have eg : ∀ args w, (callFunc 72 args).run Tryz.prog w = .ok (.enter 72 args) w := enters_of Tryz.func72 (by kernel_rfl) rfl
  have hH := holds_of_blockI (ss := zs) hb (by simpa using h7)
  have hcm : CmpReads Tryz.prog 72 #[] (Value.int .i64) cfD g 0 zs.toArray.size w := fun _ _ _ _ x y => cmpD_any x y _
  have hS := Any.slices_SortFunc_total sortL (Value.int .i64) (fun _ => rfl) cfD swoD 72 #[] g 0 cap zs.toArray w eg hcm.lays hH (Array.getElem?_eq_some_iff.1 hb).1 (by simp; omega) totD
  rw [geD] at hS
  have hS2 : Calls Tryz.prog 71 #[.slice (some ⟨g, 0, none⟩) zs.length cap, .func (.func 72) #[] #[]] w _ := hS
  refine hS2.mono ?_
  rintro e w' ⟨rfl, n, os, rfl⟩
  have hml : (zs.toArray.toList.mergeSort fun x y => decide (y ≤ x)) = srtD zs := srtD_merge zs
  refine ⟨rfl, ?_, grownBy_sortedI _⟩
  rw [hml]
  exact ownsRow_sortedI (srtD_len zs) hbase hb h4 h5 h6

theorem sortD_none (p : Option Addr) (c : Nat) (w : World) :
    Calls Tryz.prog 71 #[.slice p 0 c, .func (.func 72) #[] #[]] w fun e w' => e = .returned (.tuple #[]) ∧ w' = w := by
  have hS := AnyF.slices_SortFunc_none (P := Tryz.prog) (ρ := sortL_ren) { sortL with } p c (.func (.func 72) #[] #[]) w
  have hS2 : Calls Tryz.prog 71 #[.slice p 0 c, .func (.func 72) #[] #[]] w _ := hS
  refine hS2.mono ?_
  rintro e w' h
  exact h

set_option maxHeartbeats 2000000 in
set_option maxRecDepth 100000 in
theorem harm_any (p m1 m2 m3 m4 : Nat) (x : Flt) (a1 : Option Addr) (c1 : Nat) (a2 : Option Addr) (c2 : Nat) (a3 : Option Addr) (c3 : Nat) (lo : Nat) (pl : List Nat) (pa : Option Addr) (pc lo3 : Nat) (w : World) (hf : Found p m1 m2 m3 m4 x a1 c1 a2 c2 a3 c3 w) (n3 : SliceC CpyC 12 lo w a3 x.copies) (hp : SliceC IntC 1 lo3 w pa (plI pl)) (hsm : pl.length ≤ 1048576) (hin : ∀ (j q : Nat), pl[j]? = some q → q < x.copies.length) :
    Calls Tryz.prog 43 #[.pointer (some ⟨p, 0, none⟩), .slice pa pl.length pc] w fun e w' => ∃ a q, e = .returned (.slice a pl.length q) ∧ w'.ownsRow w.heap.size 3 1 (.slice a pl.length q) pl.length (inH (srtD (pl.map (rnkP x)))) ∧ Below w.heap.size w w' := by
  obtain ⟨i0, hi, hz0, hz1, hz2⟩ := info_parts info_int
  have HF := Hid.intro hf
  have N3 := Hid.intro n3
  have HP := Hid.intro hp
  have HIN := Hid.intro hin
  clear hf n3 hp hin
  go_enter Tryz.func43, Tryz.ntmps43
  go_wp2_with fail
  go_loopw [5, 10] (fun v i wr => ∃ (k : Nat) (L : List Int), k ≤ pl.length ∧ i = .int .i64 k ∧ Hid (L = (pl.take k).map (rnkP x)) ∧ Hid (L.length = k) ∧ Hid (wr.ownsRow w.heap.size 3 1 v k (inH L)) ∧ Below w.heap.size w wr) (fun _ i _ => pl.length - (intOf i).toNat)
  case atStart => exact ⟨0, [], Nat.zero_le _, rfl, rfl, rfl, World.ownsRow_nil _ _ _ _, Below.refl _ _⟩
  case round =>
    obtain ⟨k, L, hk, rfl, HL, HLL, hO, hB⟩ := hrel
    by_cases hlt : k < pl.length
    case neg =>
      have hke : k = pl.length := by omega
      subst hke
      rw [List.take_length] at HL
      rcases hO.out.2 with ⟨h1, h2⟩ | ⟨g, cap, cur, h1, _⟩
      · subst h1
        have HE : Hid (srtD (pl.map (rnkP x)) = []) := by
          have : pl = [] := List.length_eq_zero_iff.1 h2
          subst this
          rfl
        go_wp2_with fail
        refine (sortD_none none 0 _).mono ?_
        rintro e w4 ⟨rfl, rfl⟩
        go_wp2_with fail
        go_ret
        refine ⟨none, 0, by rw [h2]; rfl, ?_, hB⟩
        rw [HE.out, h2]
        exact World.ownsRow_nil _ _ _ _
      · subst h1
        have HO2 : Hid (wr.ownsRow w.heap.size 3 1 (.slice (some ⟨g, 0, none⟩) L.length cap) L.length (inH L)) := by
          show World.ownsRow _ _ _ _ _ _ _
          rw [HLL.out]
          exact hO.out
        have hgg := (hO.out.lt g rfl).1
        have hsrt := sortD_some HO2.out (by rw [HLL.out]; exact hsm)
        rw [HLL.out] at hsrt
        clear hO
        go_wp2_with fail
        refine hsrt.mono ?_
        rintro e w4 ⟨rfl, ho4, hg4⟩
        have HO4 := Hid.intro ho4
        have hB4 : Below w.heap.size w w4 := hB.grown hg4 hB.size (fun t e => by cases e; exact hgg)
        rw [HL.out] at HO4
        clear ho4 hg4 hsrt HO2
        go_wp2_with fail
        go_ret
        exact ⟨some ⟨g, 0, none⟩, cap, rfl, HO4.out, hB4⟩
    obtain ⟨q, hq⟩ : ∃ q, pl[k]? = some q := ⟨pl[k], List.getElem?_eq_getElem hlt⟩
    have hql := HIN.out k q hq
    obtain ⟨pb, po, rfl, _, hpb, hcp⟩ := HP.out.at (plI_at hq)
    obtain ⟨c, hc⟩ : ∃ c, x.copies[q]? = some c := ⟨x.copies[q], List.getElem?_eq_getElem hql⟩
    obtain ⟨b3, o3, rfl, _, hb3, hcc⟩ := N3.out.at hc
    have kp : wr.cell? ⟨pb, po + k, none⟩ = some (.int .i64 q) := (hB.cell (p := ⟨pb, po + k, none⟩) hpb).trans (by simpa [IntC] using hcp)
    have kr : wr.cell? ⟨b3, o3 + q * 12 + 2, none⟩ = some (.int .i64 c.rank) := (hB.cell (p := ⟨b3, o3 + q * 12 + 2, none⟩) hb3).trans (by obtain ⟨_, _, _, _, h9, _⟩ := hcc; exact h9)
    have ks : wr.cell? ⟨p, 3, none⟩ = some (.slice (some ⟨b3, o3, none⟩) x.copies.length c3) := (HF.out.below hB).1 3 _ rfl
    have hrk : rnkP x q = c.rank := by unfold rnkP; rw [hc]
    have HLN : Hid (L ++ [c.rank] = (pl.take (k + 1)).map (rnkP x)) := by
      show _ = _
      rw [List.take_add_one, hq, Option.toList_some, List.map_append, List.map_cons, List.map_nil, ← HL.out, hrk]
    have HLQ : Hid ((L ++ [c.rank]).length = k + 1) := by show _ = _; rw [List.length_append, HLL.out]; rfl
    clear hcp hcc hc hq hrk
    generalize c.rank = r at *
    go_wp2_with (at_builtin; refine wpList_append_lies _ rfl (.tmp 14) (.tmp 24) 41 rfl w.heap.size 3 i0 _ 1 8 Tryz.underlying41 hi hz0 hz1 hz2 rfl (by decide) _ k _ rfl (ownsRow_below hO.out ((Below.refl _ _).alloc (Nat.le_refl _) _)) ⟨wr.heap.size, 0, none⟩ 1 1 [.int .i64 r] rfl rfl (oneI (by simp)) (by intro u hu; rw [List.mem_singleton.1 hu]; rfl) (by omega) (by unfold maxLen; omega) (by omega) (by have := hB.size; simp; omega) _ rfl ?_; intro g2 cap2 w2 hown hgrow hto hgl)
    go_roundw
    case rel =>
      have hB1 : Below w.heap.size w (wr.alloc (Obj.cells #[.int .i64 r] 3)) := hB.alloc hB.size _
      refine ⟨k + 1, L ++ [r], by omega, by go_num, HLN, HLQ, ?_, hB1.grown hgrow hB1.size (fun i hi => (hO.out.lt i hi).1)⟩
      show World.ownsRow _ _ _ _ _ _ _
      rw [show inH (L ++ [r]) = inH L ++ [.int .i64 r] from List.map_append]
      exact hown
    case measure => simp [intOf]; omega

set_option maxHeartbeats 2000000 in
set_option maxRecDepth 100000 in
theorem implHarm_any (x : Flt) (a1 : Option Addr) (c1 : Nat) (a2 : Option Addr) (c2 : Nat) (a3 : Option Addr) (c3 : Nat) (lo : Nat) (gone : List ByteArray) (ga : Option Addr) (gc lo2 : Nat) (w : World) (n1 : SliceC BrtC 6 lo w a1 x.berths) (n2 : SliceC SvcC 2 lo w a2 x.services) (n3 : SliceC CpyC 12 lo w a3 x.copies) (hg : SliceC StrC 1 lo2 w ga gone) (hsm : gone.length ≤ 1048576)
    (l1 : x.berths.length ≤ 1048576) (l2 : x.services.length ≤ 1048576) (l3 : x.copies.length ≤ 1048576) :
    Calls Tryz.prog 17 #[.agg #[.bool x.pack, .slice a1 x.berths.length c1, .slice a2 x.services.length c2, .slice a3 x.copies.length c3], .slice ga gone.length gc] w fun e w' => HrmA x gone w e w' := by
  have N1 := Hid.intro n1
  have N2 := Hid.intro n2
  have N3 := Hid.intro n3
  have HG := Hid.intro hg
  clear n1 n2 n3 hg
  go_enter Tryz.func17, Tryz.ntmps17
  go_wp2_with fail
  have hb0 : ∀ o, Below w.heap.size w (w.alloc o) := fun o => (Below.refl _ w).alloc (Nat.le_refl _) o
  refine (findValid_any x a1 c1 a2 c2 a3 c3 lo _ (N1.out.below BrtC.holds (hb0 _) (Nat.le_refl _)) (N2.out.below SvcC.holds (hb0 _) (Nat.le_refl _)) (N3.out.below CpyC.holds (hb0 _) (Nat.le_refl _)) l1 l2 l3).mono ?_
  rintro e w1 ⟨v, rfl, hb1, hfd⟩
  have HB1 : Hid (Below w.heap.size w w1) := (hb0 _).trans (hb1.mono (by simp))
  have HZ1 : Hid (w.heap.size + 1 ≤ w1.heap.size) := by
    show _ ≤ _
    have := hb1.size
    simpa using this
  clear hb0 hb1
  have HV0 : Hid (∀ b, validI x = b → validI x = b) := fun _ h => h
  cases hv : validI x with
  | false =>
    have HE : Hid (HrmIs x gone []) := ⟨fun h => absurd (hv.symm.trans h.1) (by decide), fun _ => rfl⟩
    clear hfd hv HV0
    go_wp2_with fail
    go_ret
    exact ⟨none, 0, [], rfl, HE.out, World.ownsRow_nil _ _ _ _, HB1.out⟩
  | true =>
    obtain ⟨p, m1, m2, m3, m4, rfl, _, _, hF⟩ := hfd hv
    have HF := Hid.intro hF
    have HV := Hid.intro hv
    clear hF hfd hv HV0
    go_wp2_with fail
    refine (placesOf_any p m3 (cpN x) gone ga gc lo2 _ (HF.out.1 6 _ rfl) (by have := HF.out.2.2.2.2.1; simpa using this) (HG.out.below StrC.holds HB1.out (Nat.le_refl _)) hsm).mono ?_
    rintro e w2 ⟨hb2, hh⟩
    have HB2 : Hid (Below w.heap.size w w2) := HB1.out.trans (hb2.mono HB1.out.size)
    rcases hh with ⟨rfl, j, g, hj, hl⟩ | ⟨pl, v, rfl, hp, hown⟩
    · have HE : Hid (HrmIs x gone []) := ⟨fun h => absurd h.2 (not_known hj hl), fun _ => rfl⟩
      clear hb2 hj hl
      go_wp2_with fail
      go_ret
      exact ⟨none, 0, [], rfl, HE.out, World.ownsRow_nil _ _ _ _, HB2.out⟩
    · have HRE := Hid.intro (ranks_eq HV.out hp)
      have hpl : pl.length = gone.length := hp.1
      rw [plV_in] at hown
      obtain ⟨pa, pc, rfl, hps⟩ := row_slice (is := plI pl) (by simpa using hown) (by simp; unfold maxLen; omega)
      simp only [List.length_map] at *
      have HIN : Hid (∀ (j q : Nat), pl[j]? = some q → q < x.copies.length) := by
        intro j q hj
        have hjl := lt_of_some hj
        obtain ⟨r, h1, h2⟩ := hp.2 j _ (by omega) (List.getElem?_eq_getElem (by omega))
        rw [hj] at h1
        cases h1
        simpa using (lastOf_get h2).1
      have HPS := Hid.intro hps
      have HF2 := Hid.intro (HF.out.below hb2)
      have HZ2 : Hid (w.heap.size + 1 ≤ w2.heap.size) := Nat.le_trans HZ1.out hb2.size
      have HPL := Hid.intro hpl
      clear hb2 hp hown hps hpl
      go_wp2_with fail
      refine (harm_any p m1 m2 m3 m4 x a1 c1 a2 c2 a3 c3 lo pl pa pc w1.heap.size w2 HF2.out (N3.out.below CpyC.holds HB2.out (Nat.le_refl _)) HPS.out (by have := HPL.out; omega) HIN.out).mono ?_
      rintro e w3 ⟨a, q, rfl, ho3, hb3⟩
      have HB3 : Hid (Below w.heap.size w w3) := HB2.out.trans (hb3.mono HB2.out.size)
      have HO3 : Hid (w3.ownsRow (w.heap.size + 1) 3 1 (.slice a pl.length q) pl.length (inH (srtD (gone.map (rnkO x))))) := by
        rw [← HRE.out.1]
        exact own_mono ho3 HZ2.out
      have HLE : Hid ((srtD (gone.map (rnkO x))).length = pl.length) := by show _ = _; rw [srtD_len, List.length_map, HPL.out]
      have HE : Hid (HrmIs x gone (srtD (gone.map (rnkO x)))) := ⟨fun _ => rfl, fun h => absurd ⟨HV.out, HRE.out.2⟩ h⟩
      clear ho3 hb3
      go_wp2_with fail
      go_ret
      exact ⟨a, q, srtD (gone.map (rnkO x)), by rw [HLE.out]; rfl, HE.out, by rw [HLE.out]; exact HO3.out, HB3.out⟩

end Go.Proofs.YtggbhggnemlpnaaGreat
