/-
  Several texts in one: Smg, Smh.
-/
import Derived.Test.YtbaafgjiblkckaaGreatLea
import Derived.Test.YtbaafgjiblkckaaGreatSp3
namespace Go.Proofs.YtbaafgjiblkckaaGreat
open Go.RowKit Go.WideMaps Go.Maps

theorem idxC_get {cs : List Cpy} {g : ByteArray} (h : 0 ≤ idxC cs g) : ∃ n c, idxC cs g = ((n : Nat) : Int) ∧ cs[n]? = some c := by
  unfold idxC at h ⊢
  cases e : cs.findIdx? (fun b => decide (b.name = g)) with
  | none => rw [e] at h; simp at h
  | some k =>
    rw [List.findIdx?_eq_some_iff_getElem] at e
    obtain ⟨hk, _⟩ := e
    exact ⟨k, cs[k], rfl, List.getElem?_eq_getElem hk⟩

theorem FltIn.drew {b : Nat} {x : Flt} {a1 : Option Addr} {c1 : Nat} {a2 : Option Addr} {c2 : Nat} {a3 : Option Addr} {c3 : Nat} {w : World} (h : FltIn b x a1 c1 a2 c2 a3 c3 w) : FltIn b x a1 c1 a2 c2 a3 c3 w.drew := by
  obtain ⟨h0, h1, h2, h3⟩ := h
  exact ⟨by simpa using h0, by simpa using h1, by simpa using h2, by simpa using h3⟩

/-- the box of a fleet, and a text -/
def FltStr (b : Nat) (x : Flt) (a1 : Option Addr) (c1 : Nat) (a2 : Option Addr) (c2 : Nat) (a3 : Option Addr) (c3 : Nat) (sb so : Nat) (g : ByteArray) (w : World) : Prop := FltIn b x a1 c1 a2 c2 a3 c3 w ∧ w.cell? ⟨sb, so, none⟩ = some (.string g)

/-- the box of a fleet, and three texts -/
def FltStr4 (b : Nat) (x : Flt) (a1 : Option Addr) (c1 : Nat) (a2 : Option Addr) (c2 : Nat) (a3 : Option Addr) (c3 : Nat) (sb so : Nat) (g : ByteArray) (cb co : Nat) (cs : ByteArray) (vb vo : Nat) (vs : ByteArray) (w : World) : Prop := FltIn b x a1 c1 a2 c2 a3 c3 w ∧ w.cell? ⟨sb, so, none⟩ = some (.string g) ∧ w.cell? ⟨cb, co, none⟩ = some (.string cs) ∧ w.cell? ⟨vb, vo, none⟩ = some (.string vs)

theorem MayA.step {x : Flt} {gone : List ByteArray} {k : Nat} {g : ByteArray} (h : MayA x gone k) (hg : gone[k]? = some g) (h1 : 0 ≤ idxC x.copies g ∧ ∃ c, x.copies[(idxC x.copies g).toNat]? = some c ∧ ¬ c.at_ = ⟨#[]⟩) (h2 : ∀ (m : Nat) (s : ByteArray), k = m + 1 → gone[m]? = some s → Op.bytesLess s.toList g.toList = true) : MayA x gone (k + 1) := by
  refine ⟨fun j g' hj hg' => ?_, fun j s t hj hs ht => ?_⟩
  · by_cases e : j = k
    · subst e
      rw [hg] at hg'
      cases hg'
      exact h1
    · exact h.1 j g' (by omega) hg'
  · by_cases e : j + 1 = k
    · rw [e, hg] at ht
      cases ht
      exact h2 j s e.symm hs
    · exact h.2 j s t (by omega) hs ht

theorem MayC.step {x : Flt} {gone : List ByteArray} {s : Nat} {y : Svc} (h : MayC x gone s) (hy : x.services[s]? = some y) (h1 : 0 < cntTo (goS x gone y.name) gone.length → ((cntTo (goS x gone y.name) gone.length : Nat) : Int) ≤ y.spare - (cntTo (waitS x y.name) x.copies.length : Nat)) : MayC x gone (s + 1) := by
  intro t z ht hz h0
  by_cases e : t = s
  · subst e
    rw [hy] at hz
    cases hz
    exact h1 h0
  · exact h t z (by omega) hz h0

set_option maxHeartbeats 4000000 in
set_option maxRecDepth 100000 in
theorem l6MayGo_any (x : Flt) (a1 : Option Addr) (c1 : Nat) (a2 : Option Addr) (c2 : Nat) (a3 : Option Addr) (c3 : Nat) (lo : Nat) (gone : List ByteArray) (ga : Option Addr) (gc lo2 : Nat) (w : World) (n2 : SliceC SvcC 2 lo w a2 x.services) (n3 : SliceC CpyC 12 lo w a3 x.copies) (hg : SliceC StrC 1 lo2 w ga gone) (hsm : gone.length ≤ 1048576) (l2 : x.services.length ≤ 30) (l3 : x.copies.length ≤ 60) (hsp : ∀ (k : Nat) (y : Svc), x.services[k]? = some y → 0 ≤ y.spare ∧ y.spare ≤ 60) :
    Calls Tryz.prog 16 #[.agg #[.bool x.pack, .slice a1 x.berths.length c1, .slice a2 x.services.length c2, .slice a3 x.copies.length c3], .slice ga gone.length gc] w fun e w' => RetB e (May x gone) ∧ Below w.heap.size w w' := by
  have N2 := Hid.intro n2
  have N3 := Hid.intro n3
  have HG := Hid.intro hg
  have HSP := Hid.intro hsp
  clear n2 n3 hg hsp
  go_enter Tryz.func16, Tryz.ntmps16
  go_wp2_with fail
  have HF0 : Hid (FltIn w.heap.size x a1 c1 a2 c2 a3 c3 (w.alloc (Obj.cells #[.bool x.pack, .slice a1 x.berths.length c1, .slice a2 x.services.length c2, .slice a3 x.copies.length c3] 35))) := ⟨by simp, by simp, by simp, by simp⟩
  go_loopw [5] (fun i wr => ∃ (k : Nat), k ≤ gone.length ∧ i = .int .i64 k ∧ Hid (FltIn w.heap.size x a1 c1 a2 c2 a3 c3 wr) ∧ Hid (MayA x gone k) ∧ Hid (Below w.heap.size w wr)) (fun i _ => gone.length - (intOf i).toNat)
  case atStart => exact ⟨0, Nat.zero_le _, rfl, HF0, ⟨fun j g h => absurd h (Nat.not_lt_zero _), fun j s t h => absurd h (Nat.not_lt_zero _)⟩, by show Below _ _ _; go_grown⟩
  case round =>
    clear HF0
    obtain ⟨k, hk, rfl, hF, hA, hB⟩ := hrel
    by_cases hlt : k < gone.length
    · obtain ⟨g, hgk⟩ : ∃ g, gone[k]? = some g := ⟨gone[k], List.getElem?_eq_getElem hlt⟩
      obtain ⟨b, o, rfl, _, _, hc⟩ := (HG.out.below StrC.holds hB.out (Nat.le_refl _)).at hgk
      obtain ⟨r0, _⟩ := hc
      simp only [Nat.mul_one, Nat.add_zero] at r0
      have HX := Hid.intro hgk
      have HC0 := Hid.intro r0
      have hbl : w.heap.size < wr.heap.size := block_lt_of_cell hF.out.1
      clear hgk r0
      go_upto_region 4 with fail
      refine wp_region_held_drew (S := FltStr w.heap.size x a1 c1 a2 c2 a3 c3 b (o + k) g) (by kernel_rfl) ⟨hF.out.drew, by simpa using HC0.out⟩ (fun hS => ?_)
      refine wpAnyH_take (i := 0) (oi := { dst := some 18, op := _, type := _, pos := _, after := _, guard := none }) (v := .agg #[.bool x.pack, .slice a1 x.berths.length c1, .slice a2 x.services.length c2, .slice a3 x.copies.length c3]) rfl (by kernel_rfl) (by kernel_rfl) (by kernel_rfl) (fun _ _ _ h => h) (Or.inl ⟨by rfl, ?_⟩) hS ?_
      · intro wy hy
        obtain ⟨⟨y0, y1, y2, y3⟩, yr⟩ := hy
        go_simp
      simp only [Act.put, List.setIfInBounds_toArray, List.set_cons_zero, List.set_cons_succ]
      refine wpAnyH_take (i := 1) (oi := { dst := some 19, op := _, type := _, pos := _, after := _, guard := none }) (v := .slice (some ⟨b, o, none⟩) gone.length gc) rfl (by kernel_rfl) (by kernel_rfl) (by kernel_rfl) (fun _ _ _ h => h) (Or.inl ⟨by rfl, ?_⟩) hS ?_
      · intro wy hy
        obtain ⟨⟨y0, y1, y2, y3⟩, yr⟩ := hy
        go_simp
      simp only [Act.put, List.setIfInBounds_toArray, List.set_cons_zero, List.set_cons_succ]
      refine wpAnyH_take (i := 2) (oi := { dst := some 20, op := _, type := _, pos := _, after := _, guard := none }) (v := .int .i64 (k : Int)) rfl (by kernel_rfl) (by kernel_rfl) (by kernel_rfl) (fun _ _ _ h => h) (Or.inl ⟨by rfl, ?_⟩) hS ?_
      · intro wy hy
        obtain ⟨⟨y0, y1, y2, y3⟩, yr⟩ := hy
        go_simp
      simp only [Act.put, List.setIfInBounds_toArray, List.set_cons_zero, List.set_cons_succ]
      refine wpAnyH_take (i := 3) (oi := { dst := some 21, op := _, type := _, pos := _, after := _, guard := none }) (v := .pointer (some ⟨b, o + k, none⟩)) rfl (by kernel_rfl) (by kernel_rfl) (by kernel_rfl) (fun _ _ _ h => h) (Or.inl ⟨by rfl, ?_⟩) hS ?_
      · intro wy hy
        obtain ⟨⟨y0, y1, y2, y3⟩, yr⟩ := hy
        go_simp
      simp only [Act.put, List.setIfInBounds_toArray, List.set_cons_zero, List.set_cons_succ]
      refine wpAnyH_take (i := 4) (oi := { dst := some 22, op := _, type := _, pos := _, after := _, guard := none }) (v := .string g) rfl (by kernel_rfl) (by kernel_rfl) (by kernel_rfl) (fun _ _ _ h => h) (Or.inl ⟨by rfl, ?_⟩) hS ?_
      · intro wy hy
        obtain ⟨⟨y0, y1, y2, y3⟩, yr⟩ := hy
        go_simp
      simp only [Act.put, List.setIfInBounds_toArray, List.set_cons_zero, List.set_cons_succ]
      refine wpAnyH_ready (rs := [5]) (by kernel_rfl) (by simp) (AllReadyH.cons (o := { dst := some 23, op := _, type := _, pos := _, after := _, guard := none }) rfl (fun K hK => ?_) AllReadyH.nil)
      go_simp
      refine (l2Copy_any x a1 c1 a2 c2 a3 c3 lo g _ (N3.out.below CpyC.holds hB.out.drew (Nat.le_refl _)) (by omega)).mono ?_
      rintro e w5 ⟨rfl, hb5⟩
      have hd5 : Below wr.heap.size wr w5 := (Below.refl _ wr).drew.trans hb5
      have HB5 : Hid (Below w.heap.size w w5) := hB.out.trans (hd5.mono hB.out.size)
      have HF5 : Hid (FltIn w.heap.size x a1 c1 a2 c2 a3 c3 w5) := hF.out.below hd5 hbl
      have r0 : w5.cell? ⟨b, o + k, none⟩ = some (.string g) := (hd5.cell (p := ⟨b, o + k, none⟩) (block_lt_of_cell HC0.out)).trans HC0.out
      refine hK.out _ _ ⟨HF5.out, r0⟩ (fun hS => ?_)
      clear hK K hb5 hd5
      refine wpAnyH_take (i := 6) (oi := { dst := some 6, op := _, type := _, pos := _, after := _, guard := none }) (v := .int .i64 (idxC x.copies g)) rfl (by kernel_rfl) (by kernel_rfl) (by kernel_rfl) (fun _ _ _ h => h) (Or.inl ⟨by rfl, ?_⟩) hS ?_
      · intro wy hy
        obtain ⟨⟨y0, y1, y2, y3⟩, yr⟩ := hy
        go_simp
      simp only [Act.put, List.setIfInBounds_toArray, List.set_cons_zero, List.set_cons_succ]
      refine wpAnyH_done (by kernel_rfl) ?_ _
      clear hS
      obtain ⟨f0, f1, f2, f3⟩ := HF5.out
      generalize hI : idxC x.copies g = I at *
      by_cases hneg : I < 0
      · have HN : Hid (¬ May x gone) := by
          intro h
          have := (h.1.1 k g hlt HX.out).1
          omega
        clear hI
        go_wp2_with fail
        go_region
        go_wp2_with fail
        go_ret
        exact ⟨⟨false, rfl, ⟨(fun h => by cases h), (fun h => absurd h HN.out)⟩⟩, by have := HB5.out; go_grown⟩
      · obtain ⟨n, y, hn, hy⟩ := idxC_get (cs := x.copies) (g := g) (by rw [hI]; omega)
        have hIn : I = (n : Int) := hI.symm.trans hn
        subst hIn
        have HI := Hid.intro hI
        have HY := Hid.intro hy
        have hnl : n < x.copies.length := lt_of_some hy
        obtain ⟨b3, o3, rfl, _, _, hc⟩ := (N3.out.below CpyC.holds HB5.out (Nat.le_refl _)).at hy
        obtain ⟨a7, c7, q0, q1, q2, q3, q4, q5, q6, q7, q8, q9, q10, q11, z0, z1, z6, z9, z10, z11, z7⟩ := hc
        clear hn hI hy q0 q1 q2 q3 q4 q5 q6 q7 q8 q9 q10 z0 z1 z6 z9 z10 z11 z7
        by_cases hat : y.at_ = ⟨#[]⟩
        · have HN : Hid (¬ May x gone) := by
            intro h
            obtain ⟨_, c, h1, h2⟩ := h.1.1 k g hlt HX.out
            rw [HI.out, Int.toNat_natCast, HY.out] at h1
            cases h1
            exact h2 hat
          have hte := empty_toList hat
          have hte2 : y.at_.toList.isEmpty = true := by rw [hte]; rfl
          clear hat
          go_wp2_with fail
          refine wp_region_held_drew (S := FltStr4 w.heap.size x a1 c1 a2 c2 (some ⟨b3, o3, none⟩) c3 b (o + k) g b3 (o3 + n * 12 + 11) y.at_ b (o + k) g) (by kernel_rfl) ⟨HF5.out.drew, by simpa using r0, by simpa using q11, by simpa using r0⟩ (fun hS => ?_)
          refine wpAnyH_take (i := 0) (oi := { dst := some 24, op := _, type := _, pos := _, after := _, guard := none }) (v := .int .i64 (n : Int)) rfl (by kernel_rfl) (by kernel_rfl) (by kernel_rfl) (fun _ _ _ h => h) (Or.inl ⟨by rfl, ?_⟩) hS ?_
          · intro wy hy
            obtain ⟨⟨y0, y1, y2, y3⟩, yr, yc, yv⟩ := hy
            go_simp
          simp only [Act.put, List.setIfInBounds_toArray, List.set_cons_zero, List.set_cons_succ]
          refine wpAnyH_take (i := 1) (oi := { dst := some 25, op := _, type := _, pos := _, after := _, guard := none }) (v := .bool false) rfl (by kernel_rfl) (by kernel_rfl) (by kernel_rfl) (fun _ _ _ h => h) (Or.inl ⟨by rfl, ?_⟩) hS ?_
          · intro wy hy
            obtain ⟨⟨y0, y1, y2, y3⟩, yr, yc, yv⟩ := hy
            go_simp
          simp only [Act.put, List.setIfInBounds_toArray, List.set_cons_zero, List.set_cons_succ]
          refine wpAnyH_take (i := 2) (oi := { dst := some 26, op := _, type := _, pos := _, after := _, guard := none }) (v := .bool false) rfl (by kernel_rfl) (by kernel_rfl) (by kernel_rfl) (fun _ _ _ h => h) (Or.inl ⟨by rfl, ?_⟩) hS ?_
          · intro wy hy
            obtain ⟨⟨y0, y1, y2, y3⟩, yr, yc, yv⟩ := hy
            go_simp
          simp only [Act.put, List.setIfInBounds_toArray, List.set_cons_zero, List.set_cons_succ]
          refine wpAnyH_take (i := 3) (oi := { dst := some 27, op := _, type := _, pos := _, after := _, guard := some (2, false) }) (v := .pointer (some ⟨w.heap.size, 3, none⟩)) rfl (by kernel_rfl) (by kernel_rfl) (by kernel_rfl) (fun _ _ _ h => h) (Or.inl ⟨by rfl, ?_⟩) hS ?_
          · intro wy hy
            obtain ⟨⟨y0, y1, y2, y3⟩, yr, yc, yv⟩ := hy
            go_simp
          simp only [Act.put, List.setIfInBounds_toArray, List.set_cons_zero, List.set_cons_succ]
          refine wpAnyH_take (i := 4) (oi := { dst := some 28, op := _, type := _, pos := _, after := _, guard := some (2, false) }) (v := .slice (some ⟨b3, o3, none⟩) x.copies.length c3) rfl (by kernel_rfl) (by kernel_rfl) (by kernel_rfl) (fun _ _ _ h => h) (Or.inl ⟨by rfl, ?_⟩) hS ?_
          · intro wy hy
            obtain ⟨⟨y0, y1, y2, y3⟩, yr, yc, yv⟩ := hy
            go_simp
          simp only [Act.put, List.setIfInBounds_toArray, List.set_cons_zero, List.set_cons_succ]
          refine wpAnyH_take (i := 5) (oi := { dst := some 29, op := _, type := _, pos := _, after := _, guard := some (2, false) }) (v := .int .i64 (n : Int)) rfl (by kernel_rfl) (by kernel_rfl) (by kernel_rfl) (fun _ _ _ h => h) (Or.inl ⟨by rfl, ?_⟩) hS ?_
          · intro wy hy
            obtain ⟨⟨y0, y1, y2, y3⟩, yr, yc, yv⟩ := hy
            go_simp
          simp only [Act.put, List.setIfInBounds_toArray, List.set_cons_zero, List.set_cons_succ]
          refine wpAnyH_take (i := 6) (oi := { dst := some 30, op := _, type := _, pos := _, after := _, guard := some (2, false) }) (v := .pointer (some ⟨b3, o3 + n * 12, none⟩)) rfl (by kernel_rfl) (by kernel_rfl) (by kernel_rfl) (fun _ _ _ h => h) (Or.inl ⟨by rfl, ?_⟩) hS ?_
          · intro wy hy
            obtain ⟨⟨y0, y1, y2, y3⟩, yr, yc, yv⟩ := hy
            go_simp
          simp only [Act.put, List.setIfInBounds_toArray, List.set_cons_zero, List.set_cons_succ]
          refine wpAnyH_take (i := 7) (oi := { dst := some 31, op := _, type := _, pos := _, after := _, guard := some (2, false) }) (v := .pointer (some ⟨b3, o3 + n * 12 + 11, none⟩)) rfl (by kernel_rfl) (by kernel_rfl) (by kernel_rfl) (fun _ _ _ h => h) (Or.inl ⟨by rfl, ?_⟩) hS ?_
          · intro wy hy
            obtain ⟨⟨y0, y1, y2, y3⟩, yr, yc, yv⟩ := hy
            go_simp
          simp only [Act.put, List.setIfInBounds_toArray, List.set_cons_zero, List.set_cons_succ]
          refine wpAnyH_take (i := 8) (oi := { dst := some 32, op := _, type := _, pos := _, after := _, guard := some (2, false) }) (v := .string y.at_) rfl (by kernel_rfl) (by kernel_rfl) (by kernel_rfl) (fun _ _ _ h => h) (Or.inl ⟨by rfl, ?_⟩) hS ?_
          · intro wy hy
            obtain ⟨⟨y0, y1, y2, y3⟩, yr, yc, yv⟩ := hy
            go_simp
          simp only [Act.put, List.setIfInBounds_toArray, List.set_cons_zero, List.set_cons_succ]
          refine wpAnyH_take (i := 9) (oi := { dst := some 33, op := _, type := _, pos := _, after := _, guard := some (2, false) }) (v := .bool true) rfl (by kernel_rfl) (by kernel_rfl) (by kernel_rfl) (fun _ _ _ h => h) (Or.inl ⟨by rfl, ?_⟩) hS ?_
          · intro wy hy
            obtain ⟨⟨y0, y1, y2, y3⟩, yr, yc, yv⟩ := hy
            go_simp
          simp only [Act.put, List.setIfInBounds_toArray, List.set_cons_zero, List.set_cons_succ]
          refine wpAnyH_take (i := 10) (oi := { dst := some 34, op := _, type := _, pos := _, after := _, guard := none }) (v := .bool true) rfl (by kernel_rfl) (by kernel_rfl) (by kernel_rfl) (fun _ _ _ h => h) (Or.inl ⟨by rfl, ?_⟩) hS ?_
          · intro wy hy
            obtain ⟨⟨y0, y1, y2, y3⟩, yr, yc, yv⟩ := hy
            go_simp
          simp only [Act.put, List.setIfInBounds_toArray, List.set_cons_zero, List.set_cons_succ]
          refine wpAnyH_take (i := 11) (oi := { dst := some 35, op := _, type := _, pos := _, after := _, guard := none }) (v := .bool true) rfl (by kernel_rfl) (by kernel_rfl) (by kernel_rfl) (fun _ _ _ h => h) (Or.inl ⟨by rfl, ?_⟩) hS ?_
          · intro wy hy
            obtain ⟨⟨y0, y1, y2, y3⟩, yr, yc, yv⟩ := hy
            go_simp
          simp only [Act.put, List.setIfInBounds_toArray, List.set_cons_zero, List.set_cons_succ]
          refine wpAnyH_take (i := 12) (oi := { dst := some 36, op := _, type := _, pos := _, after := _, guard := some (11, false) }) (v := undef) rfl (by kernel_rfl) (by kernel_rfl) (by kernel_rfl) (fun _ _ _ h => h) (Or.inr ⟨by rfl, rfl⟩) hS ?_
          simp only [Act.put, List.setIfInBounds_toArray, List.set_cons_zero, List.set_cons_succ]
          refine wpAnyH_take (i := 13) (oi := { dst := some 37, op := _, type := _, pos := _, after := _, guard := some (11, false) }) (v := undef) rfl (by kernel_rfl) (by kernel_rfl) (by kernel_rfl) (fun _ _ _ h => h) (Or.inr ⟨by rfl, rfl⟩) hS ?_
          simp only [Act.put, List.setIfInBounds_toArray, List.set_cons_zero, List.set_cons_succ]
          refine wpAnyH_take (i := 14) (oi := { dst := some 38, op := _, type := _, pos := _, after := _, guard := some (11, false) }) (v := undef) rfl (by kernel_rfl) (by kernel_rfl) (by kernel_rfl) (fun _ _ _ h => h) (Or.inr ⟨by rfl, rfl⟩) hS ?_
          simp only [Act.put, List.setIfInBounds_toArray, List.set_cons_zero, List.set_cons_succ]
          refine wpAnyH_take (i := 15) (oi := { dst := some 39, op := _, type := _, pos := _, after := _, guard := some (14, true) }) (v := undef) rfl (by kernel_rfl) (by kernel_rfl) (by kernel_rfl) (fun _ _ _ h => h) (Or.inr ⟨by rfl, rfl⟩) hS ?_
          simp only [Act.put, List.setIfInBounds_toArray, List.set_cons_zero, List.set_cons_succ]
          refine wpAnyH_take (i := 16) (oi := { dst := some 40, op := _, type := _, pos := _, after := _, guard := some (14, true) }) (v := undef) rfl (by kernel_rfl) (by kernel_rfl) (by kernel_rfl) (fun _ _ _ h => h) (Or.inr ⟨by rfl, rfl⟩) hS ?_
          simp only [Act.put, List.setIfInBounds_toArray, List.set_cons_zero, List.set_cons_succ]
          refine wpAnyH_take (i := 17) (oi := { dst := some 41, op := _, type := _, pos := _, after := _, guard := some (14, true) }) (v := undef) rfl (by kernel_rfl) (by kernel_rfl) (by kernel_rfl) (fun _ _ _ h => h) (Or.inr ⟨by rfl, rfl⟩) hS ?_
          simp only [Act.put, List.setIfInBounds_toArray, List.set_cons_zero, List.set_cons_succ]
          refine wpAnyH_take (i := 18) (oi := { dst := some 42, op := _, type := _, pos := _, after := _, guard := some (14, true) }) (v := undef) rfl (by kernel_rfl) (by kernel_rfl) (by kernel_rfl) (fun _ _ _ h => h) (Or.inr ⟨by rfl, rfl⟩) hS ?_
          simp only [Act.put, List.setIfInBounds_toArray, List.set_cons_zero, List.set_cons_succ]
          refine wpAnyH_take (i := 19) (oi := { dst := some 43, op := _, type := _, pos := _, after := _, guard := some (14, true) }) (v := undef) rfl (by kernel_rfl) (by kernel_rfl) (by kernel_rfl) (fun _ _ _ h => h) (Or.inr ⟨by rfl, rfl⟩) hS ?_
          simp only [Act.put, List.setIfInBounds_toArray, List.set_cons_zero, List.set_cons_succ]
          refine wpAnyH_take (i := 20) (oi := { dst := some 44, op := _, type := _, pos := _, after := _, guard := some (14, true) }) (v := undef) rfl (by kernel_rfl) (by kernel_rfl) (by kernel_rfl) (fun _ _ _ h => h) (Or.inr ⟨by rfl, rfl⟩) hS ?_
          simp only [Act.put, List.setIfInBounds_toArray, List.set_cons_zero, List.set_cons_succ]
          refine wpAnyH_take (i := 21) (oi := { dst := some 45, op := _, type := _, pos := _, after := _, guard := some (14, true) }) (v := undef) rfl (by kernel_rfl) (by kernel_rfl) (by kernel_rfl) (fun _ _ _ h => h) (Or.inr ⟨by rfl, rfl⟩) hS ?_
          simp only [Act.put, List.setIfInBounds_toArray, List.set_cons_zero, List.set_cons_succ]
          refine wpAnyH_take (i := 22) (oi := { dst := some 46, op := _, type := _, pos := _, after := _, guard := some (14, true) }) (v := undef) rfl (by kernel_rfl) (by kernel_rfl) (by kernel_rfl) (fun _ _ _ h => h) (Or.inr ⟨by rfl, rfl⟩) hS ?_
          simp only [Act.put, List.setIfInBounds_toArray, List.set_cons_zero, List.set_cons_succ]
          refine wpAnyH_take (i := 23) (oi := { dst := some 47, op := _, type := _, pos := _, after := _, guard := some (14, true) }) (v := undef) rfl (by kernel_rfl) (by kernel_rfl) (by kernel_rfl) (fun _ _ _ h => h) (Or.inr ⟨by rfl, rfl⟩) hS ?_
          simp only [Act.put, List.setIfInBounds_toArray, List.set_cons_zero, List.set_cons_succ]
          refine wpAnyH_take (i := 24) (oi := { dst := some 48, op := _, type := _, pos := _, after := _, guard := some (14, true) }) (v := undef) rfl (by kernel_rfl) (by kernel_rfl) (by kernel_rfl) (fun _ _ _ h => h) (Or.inr ⟨by rfl, rfl⟩) hS ?_
          simp only [Act.put, List.setIfInBounds_toArray, List.set_cons_zero, List.set_cons_succ]
          refine wpAnyH_take (i := 25) (oi := { dst := some 49, op := _, type := _, pos := _, after := _, guard := some (11, false) }) (v := undef) rfl (by kernel_rfl) (by kernel_rfl) (by kernel_rfl) (fun _ _ _ h => h) (Or.inr ⟨by rfl, rfl⟩) hS ?_
          simp only [Act.put, List.setIfInBounds_toArray, List.set_cons_zero, List.set_cons_succ]
          refine wpAnyH_take (i := 26) (oi := { dst := some 50, op := _, type := _, pos := _, after := _, guard := none }) (v := .bool true) rfl (by kernel_rfl) (by kernel_rfl) (by kernel_rfl) (fun _ _ _ h => h) (Or.inl ⟨by rfl, ?_⟩) hS ?_
          · intro wy hy
            obtain ⟨⟨y0, y1, y2, y3⟩, yr, yc, yv⟩ := hy
            go_simp
          simp only [Act.put, List.setIfInBounds_toArray, List.set_cons_zero, List.set_cons_succ]
          refine wpAnyH_done (by kernel_rfl) ?_ _
          clear hS
          go_wp2_with fail
          go_ret
          exact ⟨⟨false, rfl, ⟨(fun h => by cases h), (fun h => absurd h HN.out)⟩⟩, by have := HB5.out; go_grown⟩
        · have hte := nonempty_toList hat
          have hte2 : y.at_.toList.isEmpty = false := by
            cases h : y.at_.toList with
            | nil => exact absurd h hte
            | cons a l => rfl
          have HK : Hid (0 ≤ idxC x.copies g ∧ ∃ c, x.copies[(idxC x.copies g).toNat]? = some c ∧ ¬ c.at_ = ⟨#[]⟩) := ⟨by rw [HI.out]; omega, y, by rw [HI.out, Int.toNat_natCast]; exact HY.out, hat⟩
          clear hat
          cases k with
          | zero =>
            have r0' : w5.cell? ⟨b, o, none⟩ = some (.string g) := by simpa using r0
            go_wp2_with fail
            refine wp_region_held_drew (S := FltStr4 w.heap.size x a1 c1 a2 c2 (some ⟨b3, o3, none⟩) c3 b (o) g b3 (o3 + n * 12 + 11) y.at_ b (o) g) (by kernel_rfl) ⟨HF5.out.drew, by simpa using r0', by simpa using q11, by simpa using r0'⟩ (fun hS => ?_)
            refine wpAnyH_take (i := 0) (oi := { dst := some 24, op := _, type := _, pos := _, after := _, guard := none }) (v := .int .i64 (n : Int)) rfl (by kernel_rfl) (by kernel_rfl) (by kernel_rfl) (fun _ _ _ h => h) (Or.inl ⟨by rfl, ?_⟩) hS ?_
            · intro wy hy
              obtain ⟨⟨y0, y1, y2, y3⟩, yr, yc, yv⟩ := hy
              go_simp
            simp only [Act.put, List.setIfInBounds_toArray, List.set_cons_zero, List.set_cons_succ]
            refine wpAnyH_take (i := 1) (oi := { dst := some 25, op := _, type := _, pos := _, after := _, guard := none }) (v := .bool false) rfl (by kernel_rfl) (by kernel_rfl) (by kernel_rfl) (fun _ _ _ h => h) (Or.inl ⟨by rfl, ?_⟩) hS ?_
            · intro wy hy
              obtain ⟨⟨y0, y1, y2, y3⟩, yr, yc, yv⟩ := hy
              go_simp
            simp only [Act.put, List.setIfInBounds_toArray, List.set_cons_zero, List.set_cons_succ]
            refine wpAnyH_take (i := 2) (oi := { dst := some 26, op := _, type := _, pos := _, after := _, guard := none }) (v := .bool false) rfl (by kernel_rfl) (by kernel_rfl) (by kernel_rfl) (fun _ _ _ h => h) (Or.inl ⟨by rfl, ?_⟩) hS ?_
            · intro wy hy
              obtain ⟨⟨y0, y1, y2, y3⟩, yr, yc, yv⟩ := hy
              go_simp
            simp only [Act.put, List.setIfInBounds_toArray, List.set_cons_zero, List.set_cons_succ]
            refine wpAnyH_take (i := 3) (oi := { dst := some 27, op := _, type := _, pos := _, after := _, guard := some (2, false) }) (v := .pointer (some ⟨w.heap.size, 3, none⟩)) rfl (by kernel_rfl) (by kernel_rfl) (by kernel_rfl) (fun _ _ _ h => h) (Or.inl ⟨by rfl, ?_⟩) hS ?_
            · intro wy hy
              obtain ⟨⟨y0, y1, y2, y3⟩, yr, yc, yv⟩ := hy
              go_simp
            simp only [Act.put, List.setIfInBounds_toArray, List.set_cons_zero, List.set_cons_succ]
            refine wpAnyH_take (i := 4) (oi := { dst := some 28, op := _, type := _, pos := _, after := _, guard := some (2, false) }) (v := .slice (some ⟨b3, o3, none⟩) x.copies.length c3) rfl (by kernel_rfl) (by kernel_rfl) (by kernel_rfl) (fun _ _ _ h => h) (Or.inl ⟨by rfl, ?_⟩) hS ?_
            · intro wy hy
              obtain ⟨⟨y0, y1, y2, y3⟩, yr, yc, yv⟩ := hy
              go_simp
            simp only [Act.put, List.setIfInBounds_toArray, List.set_cons_zero, List.set_cons_succ]
            refine wpAnyH_take (i := 5) (oi := { dst := some 29, op := _, type := _, pos := _, after := _, guard := some (2, false) }) (v := .int .i64 (n : Int)) rfl (by kernel_rfl) (by kernel_rfl) (by kernel_rfl) (fun _ _ _ h => h) (Or.inl ⟨by rfl, ?_⟩) hS ?_
            · intro wy hy
              obtain ⟨⟨y0, y1, y2, y3⟩, yr, yc, yv⟩ := hy
              go_simp
            simp only [Act.put, List.setIfInBounds_toArray, List.set_cons_zero, List.set_cons_succ]
            refine wpAnyH_take (i := 6) (oi := { dst := some 30, op := _, type := _, pos := _, after := _, guard := some (2, false) }) (v := .pointer (some ⟨b3, o3 + n * 12, none⟩)) rfl (by kernel_rfl) (by kernel_rfl) (by kernel_rfl) (fun _ _ _ h => h) (Or.inl ⟨by rfl, ?_⟩) hS ?_
            · intro wy hy
              obtain ⟨⟨y0, y1, y2, y3⟩, yr, yc, yv⟩ := hy
              go_simp
            simp only [Act.put, List.setIfInBounds_toArray, List.set_cons_zero, List.set_cons_succ]
            refine wpAnyH_take (i := 7) (oi := { dst := some 31, op := _, type := _, pos := _, after := _, guard := some (2, false) }) (v := .pointer (some ⟨b3, o3 + n * 12 + 11, none⟩)) rfl (by kernel_rfl) (by kernel_rfl) (by kernel_rfl) (fun _ _ _ h => h) (Or.inl ⟨by rfl, ?_⟩) hS ?_
            · intro wy hy
              obtain ⟨⟨y0, y1, y2, y3⟩, yr, yc, yv⟩ := hy
              go_simp
            simp only [Act.put, List.setIfInBounds_toArray, List.set_cons_zero, List.set_cons_succ]
            refine wpAnyH_take (i := 8) (oi := { dst := some 32, op := _, type := _, pos := _, after := _, guard := some (2, false) }) (v := .string y.at_) rfl (by kernel_rfl) (by kernel_rfl) (by kernel_rfl) (fun _ _ _ h => h) (Or.inl ⟨by rfl, ?_⟩) hS ?_
            · intro wy hy
              obtain ⟨⟨y0, y1, y2, y3⟩, yr, yc, yv⟩ := hy
              go_simp
            simp only [Act.put, List.setIfInBounds_toArray, List.set_cons_zero, List.set_cons_succ]
            refine wpAnyH_take (i := 9) (oi := { dst := some 33, op := _, type := _, pos := _, after := _, guard := some (2, false) }) (v := .bool false) rfl (by kernel_rfl) (by kernel_rfl) (by kernel_rfl) (fun _ _ _ h => h) (Or.inl ⟨by rfl, ?_⟩) hS ?_
            · intro wy hy
              obtain ⟨⟨y0, y1, y2, y3⟩, yr, yc, yv⟩ := hy
              go_simp
            simp only [Act.put, List.setIfInBounds_toArray, List.set_cons_zero, List.set_cons_succ]
            refine wpAnyH_take (i := 10) (oi := { dst := some 34, op := _, type := _, pos := _, after := _, guard := none }) (v := .bool false) rfl (by kernel_rfl) (by kernel_rfl) (by kernel_rfl) (fun _ _ _ h => h) (Or.inl ⟨by rfl, ?_⟩) hS ?_
            · intro wy hy
              obtain ⟨⟨y0, y1, y2, y3⟩, yr, yc, yv⟩ := hy
              go_simp
            simp only [Act.put, List.setIfInBounds_toArray, List.set_cons_zero, List.set_cons_succ]
            refine wpAnyH_take (i := 11) (oi := { dst := some 35, op := _, type := _, pos := _, after := _, guard := none }) (v := .bool false) rfl (by kernel_rfl) (by kernel_rfl) (by kernel_rfl) (fun _ _ _ h => h) (Or.inl ⟨by rfl, ?_⟩) hS ?_
            · intro wy hy
              obtain ⟨⟨y0, y1, y2, y3⟩, yr, yc, yv⟩ := hy
              go_simp
            simp only [Act.put, List.setIfInBounds_toArray, List.set_cons_zero, List.set_cons_succ]
            refine wpAnyH_take (i := 12) (oi := { dst := some 36, op := _, type := _, pos := _, after := _, guard := some (11, false) }) (v := .int .i64 ((0 : Nat) : Int)) rfl (by kernel_rfl) (by kernel_rfl) (by kernel_rfl) (fun _ _ _ h => h) (Or.inl ⟨by rfl, ?_⟩) hS ?_
            · intro wy hy
              obtain ⟨⟨y0, y1, y2, y3⟩, yr, yc, yv⟩ := hy
              go_simp
            simp only [Act.put, List.setIfInBounds_toArray, List.set_cons_zero, List.set_cons_succ]
            refine wpAnyH_take (i := 13) (oi := { dst := some 37, op := _, type := _, pos := _, after := _, guard := some (11, false) }) (v := .bool false) rfl (by kernel_rfl) (by kernel_rfl) (by kernel_rfl) (fun _ _ _ h => h) (Or.inl ⟨by rfl, ?_⟩) hS ?_
            · intro wy hy
              obtain ⟨⟨y0, y1, y2, y3⟩, yr, yc, yv⟩ := hy
              go_simp
            simp only [Act.put, List.setIfInBounds_toArray, List.set_cons_zero, List.set_cons_succ]
            refine wpAnyH_take (i := 14) (oi := { dst := some 38, op := _, type := _, pos := _, after := _, guard := some (11, false) }) (v := .bool false) rfl (by kernel_rfl) (by kernel_rfl) (by kernel_rfl) (fun _ _ _ h => h) (Or.inl ⟨by rfl, ?_⟩) hS ?_
            · intro wy hy
              obtain ⟨⟨y0, y1, y2, y3⟩, yr, yc, yv⟩ := hy
              go_simp
            simp only [Act.put, List.setIfInBounds_toArray, List.set_cons_zero, List.set_cons_succ]
            refine wpAnyH_take (i := 15) (oi := { dst := some 39, op := _, type := _, pos := _, after := _, guard := some (14, true) }) (v := undef) rfl (by kernel_rfl) (by kernel_rfl) (by kernel_rfl) (fun _ _ _ h => h) (Or.inr ⟨by rfl, rfl⟩) hS ?_
            simp only [Act.put, List.setIfInBounds_toArray, List.set_cons_zero, List.set_cons_succ]
            refine wpAnyH_take (i := 16) (oi := { dst := some 40, op := _, type := _, pos := _, after := _, guard := some (14, true) }) (v := undef) rfl (by kernel_rfl) (by kernel_rfl) (by kernel_rfl) (fun _ _ _ h => h) (Or.inr ⟨by rfl, rfl⟩) hS ?_
            simp only [Act.put, List.setIfInBounds_toArray, List.set_cons_zero, List.set_cons_succ]
            refine wpAnyH_take (i := 17) (oi := { dst := some 41, op := _, type := _, pos := _, after := _, guard := some (14, true) }) (v := undef) rfl (by kernel_rfl) (by kernel_rfl) (by kernel_rfl) (fun _ _ _ h => h) (Or.inr ⟨by rfl, rfl⟩) hS ?_
            simp only [Act.put, List.setIfInBounds_toArray, List.set_cons_zero, List.set_cons_succ]
            refine wpAnyH_take (i := 18) (oi := { dst := some 42, op := _, type := _, pos := _, after := _, guard := some (14, true) }) (v := undef) rfl (by kernel_rfl) (by kernel_rfl) (by kernel_rfl) (fun _ _ _ h => h) (Or.inr ⟨by rfl, rfl⟩) hS ?_
            simp only [Act.put, List.setIfInBounds_toArray, List.set_cons_zero, List.set_cons_succ]
            refine wpAnyH_take (i := 19) (oi := { dst := some 43, op := _, type := _, pos := _, after := _, guard := some (14, true) }) (v := undef) rfl (by kernel_rfl) (by kernel_rfl) (by kernel_rfl) (fun _ _ _ h => h) (Or.inr ⟨by rfl, rfl⟩) hS ?_
            simp only [Act.put, List.setIfInBounds_toArray, List.set_cons_zero, List.set_cons_succ]
            refine wpAnyH_take (i := 20) (oi := { dst := some 44, op := _, type := _, pos := _, after := _, guard := some (14, true) }) (v := undef) rfl (by kernel_rfl) (by kernel_rfl) (by kernel_rfl) (fun _ _ _ h => h) (Or.inr ⟨by rfl, rfl⟩) hS ?_
            simp only [Act.put, List.setIfInBounds_toArray, List.set_cons_zero, List.set_cons_succ]
            refine wpAnyH_take (i := 21) (oi := { dst := some 45, op := _, type := _, pos := _, after := _, guard := some (14, true) }) (v := undef) rfl (by kernel_rfl) (by kernel_rfl) (by kernel_rfl) (fun _ _ _ h => h) (Or.inr ⟨by rfl, rfl⟩) hS ?_
            simp only [Act.put, List.setIfInBounds_toArray, List.set_cons_zero, List.set_cons_succ]
            refine wpAnyH_take (i := 22) (oi := { dst := some 46, op := _, type := _, pos := _, after := _, guard := some (14, true) }) (v := undef) rfl (by kernel_rfl) (by kernel_rfl) (by kernel_rfl) (fun _ _ _ h => h) (Or.inr ⟨by rfl, rfl⟩) hS ?_
            simp only [Act.put, List.setIfInBounds_toArray, List.set_cons_zero, List.set_cons_succ]
            refine wpAnyH_take (i := 23) (oi := { dst := some 47, op := _, type := _, pos := _, after := _, guard := some (14, true) }) (v := undef) rfl (by kernel_rfl) (by kernel_rfl) (by kernel_rfl) (fun _ _ _ h => h) (Or.inr ⟨by rfl, rfl⟩) hS ?_
            simp only [Act.put, List.setIfInBounds_toArray, List.set_cons_zero, List.set_cons_succ]
            refine wpAnyH_take (i := 24) (oi := { dst := some 48, op := _, type := _, pos := _, after := _, guard := some (14, true) }) (v := undef) rfl (by kernel_rfl) (by kernel_rfl) (by kernel_rfl) (fun _ _ _ h => h) (Or.inr ⟨by rfl, rfl⟩) hS ?_
            simp only [Act.put, List.setIfInBounds_toArray, List.set_cons_zero, List.set_cons_succ]
            refine wpAnyH_take (i := 25) (oi := { dst := some 49, op := _, type := _, pos := _, after := _, guard := some (11, false) }) (v := .bool false) rfl (by kernel_rfl) (by kernel_rfl) (by kernel_rfl) (fun _ _ _ h => h) (Or.inl ⟨by rfl, ?_⟩) hS ?_
            · intro wy hy
              obtain ⟨⟨y0, y1, y2, y3⟩, yr, yc, yv⟩ := hy
              go_simp
            simp only [Act.put, List.setIfInBounds_toArray, List.set_cons_zero, List.set_cons_succ]
            refine wpAnyH_take (i := 26) (oi := { dst := some 50, op := _, type := _, pos := _, after := _, guard := none }) (v := .bool false) rfl (by kernel_rfl) (by kernel_rfl) (by kernel_rfl) (fun _ _ _ h => h) (Or.inl ⟨by rfl, ?_⟩) hS ?_
            · intro wy hy
              obtain ⟨⟨y0, y1, y2, y3⟩, yr, yc, yv⟩ := hy
              go_simp
            simp only [Act.put, List.setIfInBounds_toArray, List.set_cons_zero, List.set_cons_succ]
            refine wpAnyH_done (by kernel_rfl) ?_ _
            clear hS
            go_wp2_with fail
            go_roundw
            case rel => exact ⟨0 + 1, by omega, by go_num, HF5.out.drew, hA.out.step HX.out HK.out (fun m s e _ => by omega), HB5.out.drew⟩
            case measure => simp [intOf]; omega
          | succ m =>
            obtain ⟨t, ht⟩ : ∃ t, gone[m]? = some t := ⟨gone[m], List.getElem?_eq_getElem (by omega)⟩
            have r1 : w5.cell? ⟨b, o + m, none⟩ = some (.string t) := by
              obtain ⟨b4, o4, e, _, _, hc4⟩ := (HG.out.below StrC.holds HB5.out (Nat.le_refl _)).at ht
              cases e
              have := hc4.1
              simpa only [Nat.mul_one, Nat.add_zero] using this
            have HT := Hid.intro ht
            clear ht
            cases hbl2 : Op.bytesLess t.toList g.toList with
            | false =>
              have HN : Hid (¬ May x gone) := by
                intro h
                have := h.1.2 m t g hlt HT.out HX.out
                rw [hbl2] at this
                cases this
              go_wp2_with fail
              refine wp_region_held_drew (S := FltStr4 w.heap.size x a1 c1 a2 c2 (some ⟨b3, o3, none⟩) c3 b (o + (m + 1)) g b3 (o3 + n * 12 + 11) y.at_ b (o + m) t) (by kernel_rfl) ⟨HF5.out.drew, by simpa using r0, by simpa using q11, by simpa using r1⟩ (fun hS => ?_)
              refine wpAnyH_take (i := 0) (oi := { dst := some 24, op := _, type := _, pos := _, after := _, guard := none }) (v := .int .i64 (n : Int)) rfl (by kernel_rfl) (by kernel_rfl) (by kernel_rfl) (fun _ _ _ h => h) (Or.inl ⟨by rfl, ?_⟩) hS ?_
              · intro wy hy
                obtain ⟨⟨y0, y1, y2, y3⟩, yr, yc, yv⟩ := hy
                go_simp
              simp only [Act.put, List.setIfInBounds_toArray, List.set_cons_zero, List.set_cons_succ]
              refine wpAnyH_take (i := 1) (oi := { dst := some 25, op := _, type := _, pos := _, after := _, guard := none }) (v := .bool false) rfl (by kernel_rfl) (by kernel_rfl) (by kernel_rfl) (fun _ _ _ h => h) (Or.inl ⟨by rfl, ?_⟩) hS ?_
              · intro wy hy
                obtain ⟨⟨y0, y1, y2, y3⟩, yr, yc, yv⟩ := hy
                go_simp
              simp only [Act.put, List.setIfInBounds_toArray, List.set_cons_zero, List.set_cons_succ]
              refine wpAnyH_take (i := 2) (oi := { dst := some 26, op := _, type := _, pos := _, after := _, guard := none }) (v := .bool false) rfl (by kernel_rfl) (by kernel_rfl) (by kernel_rfl) (fun _ _ _ h => h) (Or.inl ⟨by rfl, ?_⟩) hS ?_
              · intro wy hy
                obtain ⟨⟨y0, y1, y2, y3⟩, yr, yc, yv⟩ := hy
                go_simp
              simp only [Act.put, List.setIfInBounds_toArray, List.set_cons_zero, List.set_cons_succ]
              refine wpAnyH_take (i := 3) (oi := { dst := some 27, op := _, type := _, pos := _, after := _, guard := some (2, false) }) (v := .pointer (some ⟨w.heap.size, 3, none⟩)) rfl (by kernel_rfl) (by kernel_rfl) (by kernel_rfl) (fun _ _ _ h => h) (Or.inl ⟨by rfl, ?_⟩) hS ?_
              · intro wy hy
                obtain ⟨⟨y0, y1, y2, y3⟩, yr, yc, yv⟩ := hy
                go_simp
              simp only [Act.put, List.setIfInBounds_toArray, List.set_cons_zero, List.set_cons_succ]
              refine wpAnyH_take (i := 4) (oi := { dst := some 28, op := _, type := _, pos := _, after := _, guard := some (2, false) }) (v := .slice (some ⟨b3, o3, none⟩) x.copies.length c3) rfl (by kernel_rfl) (by kernel_rfl) (by kernel_rfl) (fun _ _ _ h => h) (Or.inl ⟨by rfl, ?_⟩) hS ?_
              · intro wy hy
                obtain ⟨⟨y0, y1, y2, y3⟩, yr, yc, yv⟩ := hy
                go_simp
              simp only [Act.put, List.setIfInBounds_toArray, List.set_cons_zero, List.set_cons_succ]
              refine wpAnyH_take (i := 5) (oi := { dst := some 29, op := _, type := _, pos := _, after := _, guard := some (2, false) }) (v := .int .i64 (n : Int)) rfl (by kernel_rfl) (by kernel_rfl) (by kernel_rfl) (fun _ _ _ h => h) (Or.inl ⟨by rfl, ?_⟩) hS ?_
              · intro wy hy
                obtain ⟨⟨y0, y1, y2, y3⟩, yr, yc, yv⟩ := hy
                go_simp
              simp only [Act.put, List.setIfInBounds_toArray, List.set_cons_zero, List.set_cons_succ]
              refine wpAnyH_take (i := 6) (oi := { dst := some 30, op := _, type := _, pos := _, after := _, guard := some (2, false) }) (v := .pointer (some ⟨b3, o3 + n * 12, none⟩)) rfl (by kernel_rfl) (by kernel_rfl) (by kernel_rfl) (fun _ _ _ h => h) (Or.inl ⟨by rfl, ?_⟩) hS ?_
              · intro wy hy
                obtain ⟨⟨y0, y1, y2, y3⟩, yr, yc, yv⟩ := hy
                go_simp
              simp only [Act.put, List.setIfInBounds_toArray, List.set_cons_zero, List.set_cons_succ]
              refine wpAnyH_take (i := 7) (oi := { dst := some 31, op := _, type := _, pos := _, after := _, guard := some (2, false) }) (v := .pointer (some ⟨b3, o3 + n * 12 + 11, none⟩)) rfl (by kernel_rfl) (by kernel_rfl) (by kernel_rfl) (fun _ _ _ h => h) (Or.inl ⟨by rfl, ?_⟩) hS ?_
              · intro wy hy
                obtain ⟨⟨y0, y1, y2, y3⟩, yr, yc, yv⟩ := hy
                go_simp
              simp only [Act.put, List.setIfInBounds_toArray, List.set_cons_zero, List.set_cons_succ]
              refine wpAnyH_take (i := 8) (oi := { dst := some 32, op := _, type := _, pos := _, after := _, guard := some (2, false) }) (v := .string y.at_) rfl (by kernel_rfl) (by kernel_rfl) (by kernel_rfl) (fun _ _ _ h => h) (Or.inl ⟨by rfl, ?_⟩) hS ?_
              · intro wy hy
                obtain ⟨⟨y0, y1, y2, y3⟩, yr, yc, yv⟩ := hy
                go_simp
              simp only [Act.put, List.setIfInBounds_toArray, List.set_cons_zero, List.set_cons_succ]
              refine wpAnyH_take (i := 9) (oi := { dst := some 33, op := _, type := _, pos := _, after := _, guard := some (2, false) }) (v := .bool false) rfl (by kernel_rfl) (by kernel_rfl) (by kernel_rfl) (fun _ _ _ h => h) (Or.inl ⟨by rfl, ?_⟩) hS ?_
              · intro wy hy
                obtain ⟨⟨y0, y1, y2, y3⟩, yr, yc, yv⟩ := hy
                go_simp
              simp only [Act.put, List.setIfInBounds_toArray, List.set_cons_zero, List.set_cons_succ]
              refine wpAnyH_take (i := 10) (oi := { dst := some 34, op := _, type := _, pos := _, after := _, guard := none }) (v := .bool false) rfl (by kernel_rfl) (by kernel_rfl) (by kernel_rfl) (fun _ _ _ h => h) (Or.inl ⟨by rfl, ?_⟩) hS ?_
              · intro wy hy
                obtain ⟨⟨y0, y1, y2, y3⟩, yr, yc, yv⟩ := hy
                go_simp
              simp only [Act.put, List.setIfInBounds_toArray, List.set_cons_zero, List.set_cons_succ]
              refine wpAnyH_take (i := 11) (oi := { dst := some 35, op := _, type := _, pos := _, after := _, guard := none }) (v := .bool false) rfl (by kernel_rfl) (by kernel_rfl) (by kernel_rfl) (fun _ _ _ h => h) (Or.inl ⟨by rfl, ?_⟩) hS ?_
              · intro wy hy
                obtain ⟨⟨y0, y1, y2, y3⟩, yr, yc, yv⟩ := hy
                go_simp
              simp only [Act.put, List.setIfInBounds_toArray, List.set_cons_zero, List.set_cons_succ]
              refine wpAnyH_take (i := 12) (oi := { dst := some 36, op := _, type := _, pos := _, after := _, guard := some (11, false) }) (v := .int .i64 ((m + 1 : Nat) : Int)) rfl (by kernel_rfl) (by kernel_rfl) (by kernel_rfl) (fun _ _ _ h => h) (Or.inl ⟨by rfl, ?_⟩) hS ?_
              · intro wy hy
                obtain ⟨⟨y0, y1, y2, y3⟩, yr, yc, yv⟩ := hy
                go_simp
              simp only [Act.put, List.setIfInBounds_toArray, List.set_cons_zero, List.set_cons_succ]
              refine wpAnyH_take (i := 13) (oi := { dst := some 37, op := _, type := _, pos := _, after := _, guard := some (11, false) }) (v := .bool true) rfl (by kernel_rfl) (by kernel_rfl) (by kernel_rfl) (fun _ _ _ h => h) (Or.inl ⟨by rfl, ?_⟩) hS ?_
              · intro wy hy
                obtain ⟨⟨y0, y1, y2, y3⟩, yr, yc, yv⟩ := hy
                go_simp
              simp only [Act.put, List.setIfInBounds_toArray, List.set_cons_zero, List.set_cons_succ]
              refine wpAnyH_take (i := 14) (oi := { dst := some 38, op := _, type := _, pos := _, after := _, guard := some (11, false) }) (v := .bool true) rfl (by kernel_rfl) (by kernel_rfl) (by kernel_rfl) (fun _ _ _ h => h) (Or.inl ⟨by rfl, ?_⟩) hS ?_
              · intro wy hy
                obtain ⟨⟨y0, y1, y2, y3⟩, yr, yc, yv⟩ := hy
                go_simp
              simp only [Act.put, List.setIfInBounds_toArray, List.set_cons_zero, List.set_cons_succ]
              refine wpAnyH_take (i := 15) (oi := { dst := some 39, op := _, type := _, pos := _, after := _, guard := some (14, true) }) (v := .slice (some ⟨b, o, none⟩) gone.length gc) rfl (by kernel_rfl) (by kernel_rfl) (by kernel_rfl) (fun _ _ _ h => h) (Or.inl ⟨by rfl, ?_⟩) hS ?_
              · intro wy hy
                obtain ⟨⟨y0, y1, y2, y3⟩, yr, yc, yv⟩ := hy
                go_simp
              simp only [Act.put, List.setIfInBounds_toArray, List.set_cons_zero, List.set_cons_succ]
              refine wpAnyH_take (i := 16) (oi := { dst := some 40, op := _, type := _, pos := _, after := _, guard := some (14, true) }) (v := .int .i64 ((m + 1 : Nat) : Int)) rfl (by kernel_rfl) (by kernel_rfl) (by kernel_rfl) (fun _ _ _ h => h) (Or.inl ⟨by rfl, ?_⟩) hS ?_
              · intro wy hy
                obtain ⟨⟨y0, y1, y2, y3⟩, yr, yc, yv⟩ := hy
                go_simp
              simp only [Act.put, List.setIfInBounds_toArray, List.set_cons_zero, List.set_cons_succ]
              refine wpAnyH_take (i := 17) (oi := { dst := some 41, op := _, type := _, pos := _, after := _, guard := some (14, true) }) (v := .int .i64 (m : Int)) rfl (by kernel_rfl) (by kernel_rfl) (by kernel_rfl) (fun _ _ _ h => h) (Or.inl ⟨by rfl, ?_⟩) hS ?_
              · intro wy hy
                obtain ⟨⟨y0, y1, y2, y3⟩, yr, yc, yv⟩ := hy
                go_simp; rw [IntKind.wrap_i64]; omega
              simp only [Act.put, List.setIfInBounds_toArray, List.set_cons_zero, List.set_cons_succ]
              refine wpAnyH_take (i := 18) (oi := { dst := some 42, op := _, type := _, pos := _, after := _, guard := some (14, true) }) (v := .pointer (some ⟨b, o + m, none⟩)) rfl (by kernel_rfl) (by kernel_rfl) (by kernel_rfl) (fun _ _ _ h => h) (Or.inl ⟨by rfl, ?_⟩) hS ?_
              · intro wy hy
                obtain ⟨⟨y0, y1, y2, y3⟩, yr, yc, yv⟩ := hy
                go_simp; intro hh; omega
              simp only [Act.put, List.setIfInBounds_toArray, List.set_cons_zero, List.set_cons_succ]
              refine wpAnyH_take (i := 19) (oi := { dst := some 43, op := _, type := _, pos := _, after := _, guard := some (14, true) }) (v := .string t) rfl (by kernel_rfl) (by kernel_rfl) (by kernel_rfl) (fun _ _ _ h => h) (Or.inl ⟨by rfl, ?_⟩) hS ?_
              · intro wy hy
                obtain ⟨⟨y0, y1, y2, y3⟩, yr, yc, yv⟩ := hy
                go_simp
              simp only [Act.put, List.setIfInBounds_toArray, List.set_cons_zero, List.set_cons_succ]
              refine wpAnyH_take (i := 20) (oi := { dst := some 44, op := _, type := _, pos := _, after := _, guard := some (14, true) }) (v := .slice (some ⟨b, o, none⟩) gone.length gc) rfl (by kernel_rfl) (by kernel_rfl) (by kernel_rfl) (fun _ _ _ h => h) (Or.inl ⟨by rfl, ?_⟩) hS ?_
              · intro wy hy
                obtain ⟨⟨y0, y1, y2, y3⟩, yr, yc, yv⟩ := hy
                go_simp
              simp only [Act.put, List.setIfInBounds_toArray, List.set_cons_zero, List.set_cons_succ]
              refine wpAnyH_take (i := 21) (oi := { dst := some 45, op := _, type := _, pos := _, after := _, guard := some (14, true) }) (v := .int .i64 ((m + 1 : Nat) : Int)) rfl (by kernel_rfl) (by kernel_rfl) (by kernel_rfl) (fun _ _ _ h => h) (Or.inl ⟨by rfl, ?_⟩) hS ?_
              · intro wy hy
                obtain ⟨⟨y0, y1, y2, y3⟩, yr, yc, yv⟩ := hy
                go_simp
              simp only [Act.put, List.setIfInBounds_toArray, List.set_cons_zero, List.set_cons_succ]
              refine wpAnyH_take (i := 22) (oi := { dst := some 46, op := _, type := _, pos := _, after := _, guard := some (14, true) }) (v := .pointer (some ⟨b, o + (m + 1), none⟩)) rfl (by kernel_rfl) (by kernel_rfl) (by kernel_rfl) (fun _ _ _ h => h) (Or.inl ⟨by rfl, ?_⟩) hS ?_
              · intro wy hy
                obtain ⟨⟨y0, y1, y2, y3⟩, yr, yc, yv⟩ := hy
                go_simp; intro hh; omega
              simp only [Act.put, List.setIfInBounds_toArray, List.set_cons_zero, List.set_cons_succ]
              refine wpAnyH_take (i := 23) (oi := { dst := some 47, op := _, type := _, pos := _, after := _, guard := some (14, true) }) (v := .string g) rfl (by kernel_rfl) (by kernel_rfl) (by kernel_rfl) (fun _ _ _ h => h) (Or.inl ⟨by rfl, ?_⟩) hS ?_
              · intro wy hy
                obtain ⟨⟨y0, y1, y2, y3⟩, yr, yc, yv⟩ := hy
                go_simp
              simp only [Act.put, List.setIfInBounds_toArray, List.set_cons_zero, List.set_cons_succ]
              refine wpAnyH_take (i := 24) (oi := { dst := some 48, op := _, type := _, pos := _, after := _, guard := some (14, true) }) (v := .bool true) rfl (by kernel_rfl) (by kernel_rfl) (by kernel_rfl) (fun _ _ _ h => h) (Or.inl ⟨by rfl, ?_⟩) hS ?_
              · intro wy hy
                obtain ⟨⟨y0, y1, y2, y3⟩, yr, yc, yv⟩ := hy
                go_simp
              simp only [Act.put, List.setIfInBounds_toArray, List.set_cons_zero, List.set_cons_succ]
              refine wpAnyH_take (i := 25) (oi := { dst := some 49, op := _, type := _, pos := _, after := _, guard := some (11, false) }) (v := .bool true) rfl (by kernel_rfl) (by kernel_rfl) (by kernel_rfl) (fun _ _ _ h => h) (Or.inl ⟨by rfl, ?_⟩) hS ?_
              · intro wy hy
                obtain ⟨⟨y0, y1, y2, y3⟩, yr, yc, yv⟩ := hy
                go_simp
              simp only [Act.put, List.setIfInBounds_toArray, List.set_cons_zero, List.set_cons_succ]
              refine wpAnyH_take (i := 26) (oi := { dst := some 50, op := _, type := _, pos := _, after := _, guard := none }) (v := .bool true) rfl (by kernel_rfl) (by kernel_rfl) (by kernel_rfl) (fun _ _ _ h => h) (Or.inl ⟨by rfl, ?_⟩) hS ?_
              · intro wy hy
                obtain ⟨⟨y0, y1, y2, y3⟩, yr, yc, yv⟩ := hy
                go_simp
              simp only [Act.put, List.setIfInBounds_toArray, List.set_cons_zero, List.set_cons_succ]
              refine wpAnyH_done (by kernel_rfl) ?_ _
              clear hS
              go_wp2_with fail
              go_ret
              exact ⟨⟨false, rfl, ⟨(fun h => by cases h), (fun h => absurd h HN.out)⟩⟩, by have := HB5.out; go_grown⟩
            | true =>
              have HS : Hid (∀ (m' : Nat) (s : ByteArray), m + 1 = m' + 1 → gone[m']? = some s → Op.bytesLess s.toList g.toList = true) := by
                intro m' s e hs
                have : m' = m := by omega
                subst this
                rw [HT.out] at hs
                cases hs
                exact hbl2
              go_wp2_with fail
              refine wp_region_held_drew (S := FltStr4 w.heap.size x a1 c1 a2 c2 (some ⟨b3, o3, none⟩) c3 b (o + (m + 1)) g b3 (o3 + n * 12 + 11) y.at_ b (o + m) t) (by kernel_rfl) ⟨HF5.out.drew, by simpa using r0, by simpa using q11, by simpa using r1⟩ (fun hS => ?_)
              refine wpAnyH_take (i := 0) (oi := { dst := some 24, op := _, type := _, pos := _, after := _, guard := none }) (v := .int .i64 (n : Int)) rfl (by kernel_rfl) (by kernel_rfl) (by kernel_rfl) (fun _ _ _ h => h) (Or.inl ⟨by rfl, ?_⟩) hS ?_
              · intro wy hy
                obtain ⟨⟨y0, y1, y2, y3⟩, yr, yc, yv⟩ := hy
                go_simp
              simp only [Act.put, List.setIfInBounds_toArray, List.set_cons_zero, List.set_cons_succ]
              refine wpAnyH_take (i := 1) (oi := { dst := some 25, op := _, type := _, pos := _, after := _, guard := none }) (v := .bool false) rfl (by kernel_rfl) (by kernel_rfl) (by kernel_rfl) (fun _ _ _ h => h) (Or.inl ⟨by rfl, ?_⟩) hS ?_
              · intro wy hy
                obtain ⟨⟨y0, y1, y2, y3⟩, yr, yc, yv⟩ := hy
                go_simp
              simp only [Act.put, List.setIfInBounds_toArray, List.set_cons_zero, List.set_cons_succ]
              refine wpAnyH_take (i := 2) (oi := { dst := some 26, op := _, type := _, pos := _, after := _, guard := none }) (v := .bool false) rfl (by kernel_rfl) (by kernel_rfl) (by kernel_rfl) (fun _ _ _ h => h) (Or.inl ⟨by rfl, ?_⟩) hS ?_
              · intro wy hy
                obtain ⟨⟨y0, y1, y2, y3⟩, yr, yc, yv⟩ := hy
                go_simp
              simp only [Act.put, List.setIfInBounds_toArray, List.set_cons_zero, List.set_cons_succ]
              refine wpAnyH_take (i := 3) (oi := { dst := some 27, op := _, type := _, pos := _, after := _, guard := some (2, false) }) (v := .pointer (some ⟨w.heap.size, 3, none⟩)) rfl (by kernel_rfl) (by kernel_rfl) (by kernel_rfl) (fun _ _ _ h => h) (Or.inl ⟨by rfl, ?_⟩) hS ?_
              · intro wy hy
                obtain ⟨⟨y0, y1, y2, y3⟩, yr, yc, yv⟩ := hy
                go_simp
              simp only [Act.put, List.setIfInBounds_toArray, List.set_cons_zero, List.set_cons_succ]
              refine wpAnyH_take (i := 4) (oi := { dst := some 28, op := _, type := _, pos := _, after := _, guard := some (2, false) }) (v := .slice (some ⟨b3, o3, none⟩) x.copies.length c3) rfl (by kernel_rfl) (by kernel_rfl) (by kernel_rfl) (fun _ _ _ h => h) (Or.inl ⟨by rfl, ?_⟩) hS ?_
              · intro wy hy
                obtain ⟨⟨y0, y1, y2, y3⟩, yr, yc, yv⟩ := hy
                go_simp
              simp only [Act.put, List.setIfInBounds_toArray, List.set_cons_zero, List.set_cons_succ]
              refine wpAnyH_take (i := 5) (oi := { dst := some 29, op := _, type := _, pos := _, after := _, guard := some (2, false) }) (v := .int .i64 (n : Int)) rfl (by kernel_rfl) (by kernel_rfl) (by kernel_rfl) (fun _ _ _ h => h) (Or.inl ⟨by rfl, ?_⟩) hS ?_
              · intro wy hy
                obtain ⟨⟨y0, y1, y2, y3⟩, yr, yc, yv⟩ := hy
                go_simp
              simp only [Act.put, List.setIfInBounds_toArray, List.set_cons_zero, List.set_cons_succ]
              refine wpAnyH_take (i := 6) (oi := { dst := some 30, op := _, type := _, pos := _, after := _, guard := some (2, false) }) (v := .pointer (some ⟨b3, o3 + n * 12, none⟩)) rfl (by kernel_rfl) (by kernel_rfl) (by kernel_rfl) (fun _ _ _ h => h) (Or.inl ⟨by rfl, ?_⟩) hS ?_
              · intro wy hy
                obtain ⟨⟨y0, y1, y2, y3⟩, yr, yc, yv⟩ := hy
                go_simp
              simp only [Act.put, List.setIfInBounds_toArray, List.set_cons_zero, List.set_cons_succ]
              refine wpAnyH_take (i := 7) (oi := { dst := some 31, op := _, type := _, pos := _, after := _, guard := some (2, false) }) (v := .pointer (some ⟨b3, o3 + n * 12 + 11, none⟩)) rfl (by kernel_rfl) (by kernel_rfl) (by kernel_rfl) (fun _ _ _ h => h) (Or.inl ⟨by rfl, ?_⟩) hS ?_
              · intro wy hy
                obtain ⟨⟨y0, y1, y2, y3⟩, yr, yc, yv⟩ := hy
                go_simp
              simp only [Act.put, List.setIfInBounds_toArray, List.set_cons_zero, List.set_cons_succ]
              refine wpAnyH_take (i := 8) (oi := { dst := some 32, op := _, type := _, pos := _, after := _, guard := some (2, false) }) (v := .string y.at_) rfl (by kernel_rfl) (by kernel_rfl) (by kernel_rfl) (fun _ _ _ h => h) (Or.inl ⟨by rfl, ?_⟩) hS ?_
              · intro wy hy
                obtain ⟨⟨y0, y1, y2, y3⟩, yr, yc, yv⟩ := hy
                go_simp
              simp only [Act.put, List.setIfInBounds_toArray, List.set_cons_zero, List.set_cons_succ]
              refine wpAnyH_take (i := 9) (oi := { dst := some 33, op := _, type := _, pos := _, after := _, guard := some (2, false) }) (v := .bool false) rfl (by kernel_rfl) (by kernel_rfl) (by kernel_rfl) (fun _ _ _ h => h) (Or.inl ⟨by rfl, ?_⟩) hS ?_
              · intro wy hy
                obtain ⟨⟨y0, y1, y2, y3⟩, yr, yc, yv⟩ := hy
                go_simp
              simp only [Act.put, List.setIfInBounds_toArray, List.set_cons_zero, List.set_cons_succ]
              refine wpAnyH_take (i := 10) (oi := { dst := some 34, op := _, type := _, pos := _, after := _, guard := none }) (v := .bool false) rfl (by kernel_rfl) (by kernel_rfl) (by kernel_rfl) (fun _ _ _ h => h) (Or.inl ⟨by rfl, ?_⟩) hS ?_
              · intro wy hy
                obtain ⟨⟨y0, y1, y2, y3⟩, yr, yc, yv⟩ := hy
                go_simp
              simp only [Act.put, List.setIfInBounds_toArray, List.set_cons_zero, List.set_cons_succ]
              refine wpAnyH_take (i := 11) (oi := { dst := some 35, op := _, type := _, pos := _, after := _, guard := none }) (v := .bool false) rfl (by kernel_rfl) (by kernel_rfl) (by kernel_rfl) (fun _ _ _ h => h) (Or.inl ⟨by rfl, ?_⟩) hS ?_
              · intro wy hy
                obtain ⟨⟨y0, y1, y2, y3⟩, yr, yc, yv⟩ := hy
                go_simp
              simp only [Act.put, List.setIfInBounds_toArray, List.set_cons_zero, List.set_cons_succ]
              refine wpAnyH_take (i := 12) (oi := { dst := some 36, op := _, type := _, pos := _, after := _, guard := some (11, false) }) (v := .int .i64 ((m + 1 : Nat) : Int)) rfl (by kernel_rfl) (by kernel_rfl) (by kernel_rfl) (fun _ _ _ h => h) (Or.inl ⟨by rfl, ?_⟩) hS ?_
              · intro wy hy
                obtain ⟨⟨y0, y1, y2, y3⟩, yr, yc, yv⟩ := hy
                go_simp
              simp only [Act.put, List.setIfInBounds_toArray, List.set_cons_zero, List.set_cons_succ]
              refine wpAnyH_take (i := 13) (oi := { dst := some 37, op := _, type := _, pos := _, after := _, guard := some (11, false) }) (v := .bool true) rfl (by kernel_rfl) (by kernel_rfl) (by kernel_rfl) (fun _ _ _ h => h) (Or.inl ⟨by rfl, ?_⟩) hS ?_
              · intro wy hy
                obtain ⟨⟨y0, y1, y2, y3⟩, yr, yc, yv⟩ := hy
                go_simp
              simp only [Act.put, List.setIfInBounds_toArray, List.set_cons_zero, List.set_cons_succ]
              refine wpAnyH_take (i := 14) (oi := { dst := some 38, op := _, type := _, pos := _, after := _, guard := some (11, false) }) (v := .bool true) rfl (by kernel_rfl) (by kernel_rfl) (by kernel_rfl) (fun _ _ _ h => h) (Or.inl ⟨by rfl, ?_⟩) hS ?_
              · intro wy hy
                obtain ⟨⟨y0, y1, y2, y3⟩, yr, yc, yv⟩ := hy
                go_simp
              simp only [Act.put, List.setIfInBounds_toArray, List.set_cons_zero, List.set_cons_succ]
              refine wpAnyH_take (i := 15) (oi := { dst := some 39, op := _, type := _, pos := _, after := _, guard := some (14, true) }) (v := .slice (some ⟨b, o, none⟩) gone.length gc) rfl (by kernel_rfl) (by kernel_rfl) (by kernel_rfl) (fun _ _ _ h => h) (Or.inl ⟨by rfl, ?_⟩) hS ?_
              · intro wy hy
                obtain ⟨⟨y0, y1, y2, y3⟩, yr, yc, yv⟩ := hy
                go_simp
              simp only [Act.put, List.setIfInBounds_toArray, List.set_cons_zero, List.set_cons_succ]
              refine wpAnyH_take (i := 16) (oi := { dst := some 40, op := _, type := _, pos := _, after := _, guard := some (14, true) }) (v := .int .i64 ((m + 1 : Nat) : Int)) rfl (by kernel_rfl) (by kernel_rfl) (by kernel_rfl) (fun _ _ _ h => h) (Or.inl ⟨by rfl, ?_⟩) hS ?_
              · intro wy hy
                obtain ⟨⟨y0, y1, y2, y3⟩, yr, yc, yv⟩ := hy
                go_simp
              simp only [Act.put, List.setIfInBounds_toArray, List.set_cons_zero, List.set_cons_succ]
              refine wpAnyH_take (i := 17) (oi := { dst := some 41, op := _, type := _, pos := _, after := _, guard := some (14, true) }) (v := .int .i64 (m : Int)) rfl (by kernel_rfl) (by kernel_rfl) (by kernel_rfl) (fun _ _ _ h => h) (Or.inl ⟨by rfl, ?_⟩) hS ?_
              · intro wy hy
                obtain ⟨⟨y0, y1, y2, y3⟩, yr, yc, yv⟩ := hy
                go_simp; rw [IntKind.wrap_i64]; omega
              simp only [Act.put, List.setIfInBounds_toArray, List.set_cons_zero, List.set_cons_succ]
              refine wpAnyH_take (i := 18) (oi := { dst := some 42, op := _, type := _, pos := _, after := _, guard := some (14, true) }) (v := .pointer (some ⟨b, o + m, none⟩)) rfl (by kernel_rfl) (by kernel_rfl) (by kernel_rfl) (fun _ _ _ h => h) (Or.inl ⟨by rfl, ?_⟩) hS ?_
              · intro wy hy
                obtain ⟨⟨y0, y1, y2, y3⟩, yr, yc, yv⟩ := hy
                go_simp; intro hh; omega
              simp only [Act.put, List.setIfInBounds_toArray, List.set_cons_zero, List.set_cons_succ]
              refine wpAnyH_take (i := 19) (oi := { dst := some 43, op := _, type := _, pos := _, after := _, guard := some (14, true) }) (v := .string t) rfl (by kernel_rfl) (by kernel_rfl) (by kernel_rfl) (fun _ _ _ h => h) (Or.inl ⟨by rfl, ?_⟩) hS ?_
              · intro wy hy
                obtain ⟨⟨y0, y1, y2, y3⟩, yr, yc, yv⟩ := hy
                go_simp
              simp only [Act.put, List.setIfInBounds_toArray, List.set_cons_zero, List.set_cons_succ]
              refine wpAnyH_take (i := 20) (oi := { dst := some 44, op := _, type := _, pos := _, after := _, guard := some (14, true) }) (v := .slice (some ⟨b, o, none⟩) gone.length gc) rfl (by kernel_rfl) (by kernel_rfl) (by kernel_rfl) (fun _ _ _ h => h) (Or.inl ⟨by rfl, ?_⟩) hS ?_
              · intro wy hy
                obtain ⟨⟨y0, y1, y2, y3⟩, yr, yc, yv⟩ := hy
                go_simp
              simp only [Act.put, List.setIfInBounds_toArray, List.set_cons_zero, List.set_cons_succ]
              refine wpAnyH_take (i := 21) (oi := { dst := some 45, op := _, type := _, pos := _, after := _, guard := some (14, true) }) (v := .int .i64 ((m + 1 : Nat) : Int)) rfl (by kernel_rfl) (by kernel_rfl) (by kernel_rfl) (fun _ _ _ h => h) (Or.inl ⟨by rfl, ?_⟩) hS ?_
              · intro wy hy
                obtain ⟨⟨y0, y1, y2, y3⟩, yr, yc, yv⟩ := hy
                go_simp
              simp only [Act.put, List.setIfInBounds_toArray, List.set_cons_zero, List.set_cons_succ]
              refine wpAnyH_take (i := 22) (oi := { dst := some 46, op := _, type := _, pos := _, after := _, guard := some (14, true) }) (v := .pointer (some ⟨b, o + (m + 1), none⟩)) rfl (by kernel_rfl) (by kernel_rfl) (by kernel_rfl) (fun _ _ _ h => h) (Or.inl ⟨by rfl, ?_⟩) hS ?_
              · intro wy hy
                obtain ⟨⟨y0, y1, y2, y3⟩, yr, yc, yv⟩ := hy
                go_simp; intro hh; omega
              simp only [Act.put, List.setIfInBounds_toArray, List.set_cons_zero, List.set_cons_succ]
              refine wpAnyH_take (i := 23) (oi := { dst := some 47, op := _, type := _, pos := _, after := _, guard := some (14, true) }) (v := .string g) rfl (by kernel_rfl) (by kernel_rfl) (by kernel_rfl) (fun _ _ _ h => h) (Or.inl ⟨by rfl, ?_⟩) hS ?_
              · intro wy hy
                obtain ⟨⟨y0, y1, y2, y3⟩, yr, yc, yv⟩ := hy
                go_simp
              simp only [Act.put, List.setIfInBounds_toArray, List.set_cons_zero, List.set_cons_succ]
              refine wpAnyH_take (i := 24) (oi := { dst := some 48, op := _, type := _, pos := _, after := _, guard := some (14, true) }) (v := .bool false) rfl (by kernel_rfl) (by kernel_rfl) (by kernel_rfl) (fun _ _ _ h => h) (Or.inl ⟨by rfl, ?_⟩) hS ?_
              · intro wy hy
                obtain ⟨⟨y0, y1, y2, y3⟩, yr, yc, yv⟩ := hy
                go_simp
              simp only [Act.put, List.setIfInBounds_toArray, List.set_cons_zero, List.set_cons_succ]
              refine wpAnyH_take (i := 25) (oi := { dst := some 49, op := _, type := _, pos := _, after := _, guard := some (11, false) }) (v := .bool false) rfl (by kernel_rfl) (by kernel_rfl) (by kernel_rfl) (fun _ _ _ h => h) (Or.inl ⟨by rfl, ?_⟩) hS ?_
              · intro wy hy
                obtain ⟨⟨y0, y1, y2, y3⟩, yr, yc, yv⟩ := hy
                go_simp
              simp only [Act.put, List.setIfInBounds_toArray, List.set_cons_zero, List.set_cons_succ]
              refine wpAnyH_take (i := 26) (oi := { dst := some 50, op := _, type := _, pos := _, after := _, guard := none }) (v := .bool false) rfl (by kernel_rfl) (by kernel_rfl) (by kernel_rfl) (fun _ _ _ h => h) (Or.inl ⟨by rfl, ?_⟩) hS ?_
              · intro wy hy
                obtain ⟨⟨y0, y1, y2, y3⟩, yr, yc, yv⟩ := hy
                go_simp
              simp only [Act.put, List.setIfInBounds_toArray, List.set_cons_zero, List.set_cons_succ]
              refine wpAnyH_done (by kernel_rfl) ?_ _
              clear hS
              go_wp2_with fail
              go_roundw
              case rel => exact ⟨m + 1 + 1, by omega, by go_num, HF5.out.drew, hA.out.step HX.out HK.out HS.out, HB5.out.drew⟩
              case measure => simp [intOf]; omega
    · have hke : k = gone.length := by omega
      subst hke
      have HA := Hid.intro hA.out
      go_wp2_with fail
      go_loopw [7] (fun i wr => ∃ (s : Nat), s ≤ x.services.length ∧ i = .int .i64 s ∧ Hid (FltIn w.heap.size x a1 c1 a2 c2 a3 c3 wr) ∧ Hid (MayC x gone s) ∧ Hid (Below w.heap.size w wr)) (fun i _ => x.services.length - (intOf i).toNat)
      case atStart => exact ⟨0, Nat.zero_le _, rfl, hF, fun s y h => absurd h (Nat.not_lt_zero _), hB⟩
      case round =>
        clear hF hB hA
        obtain ⟨s, hs, rfl, hF, hC, hB⟩ := hrel
        obtain ⟨f0, f1, f2, f3⟩ := hF.out
        by_cases hlt2 : s < x.services.length
        · obtain ⟨y, hy⟩ : ∃ y, x.services[s]? = some y := ⟨x.services[s], List.getElem?_eq_getElem hlt2⟩
          have HY := Hid.intro hy
          obtain ⟨b2, o2, rfl, _, _, hc⟩ := (N2.out.below SvcC.holds hB.out (Nat.le_refl _)).at hy
          obtain ⟨q0, q1, _⟩ := hc
          simp only [Nat.add_zero] at q0
          have HV := Hid.intro (HSP.out s y hy)
          clear hy
          go_wp2_with fail
          go_loopw [8, 10] (fun l i wr => ∃ (k : Nat) (M : Int), k ≤ x.copies.length ∧ i = .int .i64 k ∧ l = .int .i64 M ∧ -60 ≤ M ∧ M ≤ 60 ∧ Hid (M = y.spare - (cntTo (waitS x y.name) k : Nat)) ∧ Hid (FltIn w.heap.size x a1 c1 (some ⟨b2, o2, none⟩) c2 a3 c3 wr) ∧ Hid (Below w.heap.size w wr)) (fun _ i _ => x.copies.length - (intOf i).toNat)
          case atStart =>
            have h1 := HV.out
            exact ⟨0, y.spare, Nat.zero_le _, rfl, rfl, by omega, by omega, by show _ = _; simp [cntTo], hF, hB⟩
          case round =>
            clear hF hB f0 f1 f2 f3 q0 q1
            obtain ⟨k, M, hk, rfl, rfl, hM0, hM1, hM, hF, hB⟩ := hrel
            obtain ⟨f0, f1, f2, f3⟩ := hF.out
            by_cases hlt3 : k < x.copies.length
            · obtain ⟨c, hc⟩ : ∃ c, x.copies[k]? = some c := ⟨x.copies[k], List.getElem?_eq_getElem hlt3⟩
              have HC := Hid.intro hc
              have q0 : wr.cell? ⟨b2, o2 + s * 2, none⟩ = some (.string y.name) := by
                obtain ⟨b4, o4, e, _, _, hc4⟩ := (N2.out.below SvcC.holds hB.out (Nat.le_refl _)).at HY.out
                cases e
                have := hc4.1
                simpa only [Nat.add_zero] using this
              obtain ⟨b3, o3, rfl, _, _, hcc⟩ := (N3.out.below CpyC.holds hB.out (Nat.le_refl _)).at hc
              obtain ⟨a7, c7, _, p1, _, _, _, _, _, _, _, _, _, p11, _, _, _, _, _, _, _⟩ := hcc
              clear hc
              by_cases hsv : c.service = y.name
              · have hsb := bts_eq hsv
                by_cases hat : c.at_ = ⟨#[]⟩
                · have HW : Hid (waitS x y.name k = true) := by show _ = _; unfold waitS; rw [HC.out]; simp [hsv, hat]
                  have hte := empty_toList hat
                  have hte2 : c.at_.toList.isEmpty = true := by rw [hte]; rfl
                  have HBD : Hid (-60 ≤ M - 1) := by
                    have h1 := HV.out
                    have h2 := cntTo_le (waitS x y.name) (k + 1)
                    have h3 := hM.out
                    rw [cntTo_yes HW.out] at h2
                    show _ ≤ _
                    omega
                  clear hsv hat
                  go_wp2_with fail
                  go_region
                  go_wp2_with fail
                  go_roundw
                  case rel => exact ⟨k + 1, M - 1, by omega, by go_num, rfl, HBD.out, by omega, by show _ = _; rw [cntTo_yes HW.out, hM.out]; omega, hF.out.drew, hB.out.drew⟩
                  case measure => simp [intOf]; omega
                · have HW : Hid (waitS x y.name k = false) := by show _ = _; unfold waitS; rw [HC.out]; simp [hat]
                  have hte := nonempty_toList hat
                  have hte2 : c.at_.toList.isEmpty = false := by
                    cases h : c.at_.toList with
                    | nil => exact absurd h hte
                    | cons a l => rfl
                  clear hsv hat
                  go_wp2_with fail
                  go_region
                  go_wp2_with fail
                  go_roundw
                  case rel => exact ⟨k + 1, M, by omega, by go_num, rfl, by omega, by omega, by show _ = _; rw [cntTo_no HW.out, hM.out], hF.out.drew, hB.out.drew⟩
                  case measure => simp [intOf]; omega
              · have hsb := bts_ne hsv
                have HW : Hid (waitS x y.name k = false) := by show _ = _; unfold waitS; rw [HC.out]; simp [hsv]
                clear hsv
                go_wp2_with fail
                go_region
                go_wp2_with fail
                go_roundw
                case rel => exact ⟨k + 1, M, by omega, by go_num, rfl, by omega, by omega, by show _ = _; rw [cntTo_no HW.out, hM.out], hF.out.drew, hB.out.drew⟩
                case measure => simp [intOf]; omega
            · have hke : k = x.copies.length := by omega
              subst hke
              go_wp2_with fail
              go_loopw [9, 11] (fun l i wr => ∃ (k : Nat) (G : Int), k ≤ gone.length ∧ i = .int .i64 k ∧ l = .int .i64 G ∧ 0 ≤ G ∧ G ≤ 1048576 ∧ Hid (G = (cntTo (goS x gone y.name) k : Nat)) ∧ Hid (FltIn w.heap.size x a1 c1 (some ⟨b2, o2, none⟩) c2 a3 c3 wr) ∧ Hid (Below w.heap.size w wr)) (fun _ i _ => gone.length - (intOf i).toNat)
              case atStart => exact ⟨0, 0, Nat.zero_le _, rfl, rfl, by omega, by omega, rfl, hF, hB⟩
              case round =>
                clear hF hB f0 f1 f2 f3
                obtain ⟨k, G, hk, rfl, rfl, hG0, hG1, hG, hF, hB⟩ := hrel
                by_cases hlt4 : k < gone.length
                · obtain ⟨g, hgk⟩ : ∃ g, gone[k]? = some g := ⟨gone[k], List.getElem?_eq_getElem hlt4⟩
                  have HX := Hid.intro hgk
                  obtain ⟨n, c0, hn, hcn0⟩ := idxC_get (cs := x.copies) (g := g) (HA.out.1 k g hlt4 hgk).1
                  obtain ⟨c, hcn⟩ : ∃ c, x.copies[n]? = some c := ⟨c0, hcn0⟩
                  have HN := Hid.intro hn
                  have HC := Hid.intro hcn
                  have hnl : n < x.copies.length := lt_of_some hcn
                  have hbl : w.heap.size < wr.heap.size := block_lt_of_cell hF.out.1
                  have HW : Hid (wr.cell? ⟨b2, o2 + s * 2, none⟩ = some (.string y.name)) := by
                    obtain ⟨b4, o4, e, _, _, hc4⟩ := (N2.out.below SvcC.holds hB.out (Nat.le_refl _)).at HY.out
                    cases e
                    have := hc4.1
                    simp only [Nat.add_zero] at this
                    exact this
                  obtain ⟨b, o, rfl, _, _, hcg⟩ := (HG.out.below StrC.holds hB.out (Nat.le_refl _)).at hgk
                  have HR : Hid (wr.cell? ⟨b, o + k, none⟩ = some (.string g)) := by
                    have := hcg.1
                    simp only [Nat.mul_one, Nat.add_zero] at this
                    exact this
                  obtain ⟨b3, o3, rfl, _, _, hcc⟩ := (N3.out.below CpyC.holds hB.out (Nat.le_refl _)).at hcn
                  obtain ⟨a7, c7, _, p1, _, _, _, _, _, _, _, _, _, p11, _, _, _, _, _, _, _⟩ := hcc
                  have HQ : Hid (wr.cell? ⟨b3, o3 + n * 12 + 1, none⟩ = some (.string c.service)) := p1
                  obtain ⟨bb, hbb⟩ : ∃ bb, (c.service.toList == y.name.toList) = bb := ⟨_, rfl⟩
                  have HT : Hid (goS x gone y.name k = bb) := by
                    show _ = _
                    unfold goS
                    rw [HX.out]
                    simp only [HN.out, Int.toNat_natCast, HC.out]
                    by_cases e : c.service = y.name
                    · rw [bts_eq e] at hbb
                      rw [← hbb]
                      simp [e]
                    · rw [bts_ne e] at hbb
                      rw [← hbb]
                      simp [e]
                  clear hgk hn hcn hcn0 hcg p1 p11
                  go_upto_region 20 with fail
                  refine wp_region_held_drew (S := FltStr4 w.heap.size x a1 c1 (some ⟨b2, o2, none⟩) c2 (some ⟨b3, o3, none⟩) c3 b (o + k) g b3 (o3 + n * 12 + 1) c.service b2 (o2 + s * 2) y.name) (by kernel_rfl) ⟨hF.out.drew, by simpa using HR.out, by simpa using HQ.out, by simpa using HW.out⟩ (fun hS => ?_)
                  refine wpAnyH_take (i := 0) (oi := { dst := some 101, op := _, type := _, pos := _, after := _, guard := none }) (v := .pointer (some ⟨w.heap.size, 3, none⟩)) rfl (by kernel_rfl) (by kernel_rfl) (by kernel_rfl) (fun _ _ _ h => h) (Or.inl ⟨by rfl, ?_⟩) hS ?_
                  · intro wy hy
                    obtain ⟨⟨y0, y1, y2, y3⟩, yr, yc, yv⟩ := hy
                    go_simp
                  simp only [Act.put, List.setIfInBounds_toArray, List.set_cons_zero, List.set_cons_succ]
                  refine wpAnyH_take (i := 1) (oi := { dst := some 102, op := _, type := _, pos := _, after := _, guard := none }) (v := .slice (some ⟨b3, o3, none⟩) x.copies.length c3) rfl (by kernel_rfl) (by kernel_rfl) (by kernel_rfl) (fun _ _ _ h => h) (Or.inl ⟨by rfl, ?_⟩) hS ?_
                  · intro wy hy
                    obtain ⟨⟨y0, y1, y2, y3⟩, yr, yc, yv⟩ := hy
                    go_simp
                  simp only [Act.put, List.setIfInBounds_toArray, List.set_cons_zero, List.set_cons_succ]
                  refine wpAnyH_take (i := 2) (oi := { dst := some 103, op := _, type := _, pos := _, after := _, guard := none }) (v := .agg #[.bool x.pack, .slice a1 x.berths.length c1, .slice (some ⟨b2, o2, none⟩) x.services.length c2, .slice (some ⟨b3, o3, none⟩) x.copies.length c3]) rfl (by kernel_rfl) (by kernel_rfl) (by kernel_rfl) (fun _ _ _ h => h) (Or.inl ⟨by rfl, ?_⟩) hS ?_
                  · intro wy hy
                    obtain ⟨⟨y0, y1, y2, y3⟩, yr, yc, yv⟩ := hy
                    go_simp
                  simp only [Act.put, List.setIfInBounds_toArray, List.set_cons_zero, List.set_cons_succ]
                  refine wpAnyH_take (i := 3) (oi := { dst := some 104, op := _, type := _, pos := _, after := _, guard := none }) (v := .slice (some ⟨b, o, none⟩) gone.length gc) rfl (by kernel_rfl) (by kernel_rfl) (by kernel_rfl) (fun _ _ _ h => h) (Or.inl ⟨by rfl, ?_⟩) hS ?_
                  · intro wy hy
                    obtain ⟨⟨y0, y1, y2, y3⟩, yr, yc, yv⟩ := hy
                    go_simp
                  simp only [Act.put, List.setIfInBounds_toArray, List.set_cons_zero, List.set_cons_succ]
                  refine wpAnyH_take (i := 4) (oi := { dst := some 105, op := _, type := _, pos := _, after := _, guard := none }) (v := .int .i64 (k : Int)) rfl (by kernel_rfl) (by kernel_rfl) (by kernel_rfl) (fun _ _ _ h => h) (Or.inl ⟨by rfl, ?_⟩) hS ?_
                  · intro wy hy
                    obtain ⟨⟨y0, y1, y2, y3⟩, yr, yc, yv⟩ := hy
                    go_simp
                  simp only [Act.put, List.setIfInBounds_toArray, List.set_cons_zero, List.set_cons_succ]
                  refine wpAnyH_take (i := 5) (oi := { dst := some 106, op := _, type := _, pos := _, after := _, guard := none }) (v := .pointer (some ⟨b, o + k, none⟩)) rfl (by kernel_rfl) (by kernel_rfl) (by kernel_rfl) (fun _ _ _ h => h) (Or.inl ⟨by rfl, ?_⟩) hS ?_
                  · intro wy hy
                    obtain ⟨⟨y0, y1, y2, y3⟩, yr, yc, yv⟩ := hy
                    go_simp
                  simp only [Act.put, List.setIfInBounds_toArray, List.set_cons_zero, List.set_cons_succ]
                  refine wpAnyH_take (i := 6) (oi := { dst := some 107, op := _, type := _, pos := _, after := _, guard := none }) (v := .string g) rfl (by kernel_rfl) (by kernel_rfl) (by kernel_rfl) (fun _ _ _ h => h) (Or.inl ⟨by rfl, ?_⟩) hS ?_
                  · intro wy hy
                    obtain ⟨⟨y0, y1, y2, y3⟩, yr, yc, yv⟩ := hy
                    go_simp
                  simp only [Act.put, List.setIfInBounds_toArray, List.set_cons_zero, List.set_cons_succ]
                  refine wpAnyH_take (i := 11) (oi := { dst := some 112, op := _, type := _, pos := _, after := _, guard := none }) (v := .pointer (some ⟨w.heap.size, 2, none⟩)) rfl (by kernel_rfl) (by kernel_rfl) (by kernel_rfl) (fun _ _ _ h => h) (Or.inl ⟨by rfl, ?_⟩) hS ?_
                  · intro wy hy
                    obtain ⟨⟨y0, y1, y2, y3⟩, yr, yc, yv⟩ := hy
                    go_simp
                  simp only [Act.put, List.setIfInBounds_toArray, List.set_cons_zero, List.set_cons_succ]
                  refine wpAnyH_take (i := 12) (oi := { dst := some 113, op := _, type := _, pos := _, after := _, guard := none }) (v := .slice (some ⟨b2, o2, none⟩) x.services.length c2) rfl (by kernel_rfl) (by kernel_rfl) (by kernel_rfl) (fun _ _ _ h => h) (Or.inl ⟨by rfl, ?_⟩) hS ?_
                  · intro wy hy
                    obtain ⟨⟨y0, y1, y2, y3⟩, yr, yc, yv⟩ := hy
                    go_simp
                  simp only [Act.put, List.setIfInBounds_toArray, List.set_cons_zero, List.set_cons_succ]
                  refine wpAnyH_take (i := 13) (oi := { dst := some 114, op := _, type := _, pos := _, after := _, guard := none }) (v := .int .i64 (s : Int)) rfl (by kernel_rfl) (by kernel_rfl) (by kernel_rfl) (fun _ _ _ h => h) (Or.inl ⟨by rfl, ?_⟩) hS ?_
                  · intro wy hy
                    obtain ⟨⟨y0, y1, y2, y3⟩, yr, yc, yv⟩ := hy
                    go_simp
                  simp only [Act.put, List.setIfInBounds_toArray, List.set_cons_zero, List.set_cons_succ]
                  refine wpAnyH_take (i := 14) (oi := { dst := some 115, op := _, type := _, pos := _, after := _, guard := none }) (v := .pointer (some ⟨b2, o2 + s * 2, none⟩)) rfl (by kernel_rfl) (by kernel_rfl) (by kernel_rfl) (fun _ _ _ h => h) (Or.inl ⟨by rfl, ?_⟩) hS ?_
                  · intro wy hy
                    obtain ⟨⟨y0, y1, y2, y3⟩, yr, yc, yv⟩ := hy
                    go_simp
                  simp only [Act.put, List.setIfInBounds_toArray, List.set_cons_zero, List.set_cons_succ]
                  refine wpAnyH_take (i := 15) (oi := { dst := some 116, op := _, type := _, pos := _, after := _, guard := none }) (v := .pointer (some ⟨b2, o2 + s * 2, none⟩)) rfl (by kernel_rfl) (by kernel_rfl) (by kernel_rfl) (fun _ _ _ h => h) (Or.inl ⟨by rfl, ?_⟩) hS ?_
                  · intro wy hy
                    obtain ⟨⟨y0, y1, y2, y3⟩, yr, yc, yv⟩ := hy
                    go_simp
                  simp only [Act.put, List.setIfInBounds_toArray, List.set_cons_zero, List.set_cons_succ]
                  refine wpAnyH_take (i := 16) (oi := { dst := some 117, op := _, type := _, pos := _, after := _, guard := none }) (v := .string y.name) rfl (by kernel_rfl) (by kernel_rfl) (by kernel_rfl) (fun _ _ _ h => h) (Or.inl ⟨by rfl, ?_⟩) hS ?_
                  · intro wy hy
                    obtain ⟨⟨y0, y1, y2, y3⟩, yr, yc, yv⟩ := hy
                    go_simp
                  simp only [Act.put, List.setIfInBounds_toArray, List.set_cons_zero, List.set_cons_succ]
                  refine wpAnyH_ready (rs := [7]) (by kernel_rfl) (by simp) (AllReadyH.cons (o := { dst := some 108, op := _, type := _, pos := _, after := _, guard := none }) rfl (fun K hK => ?_) AllReadyH.nil)
                  go_simp
                  refine (l2Copy_any x a1 c1 (some ⟨b2, o2, none⟩) c2 (some ⟨b3, o3, none⟩) c3 lo g _ (N3.out.below CpyC.holds hB.out.drew (Nat.le_refl _)) (by omega)).mono ?_
                  rintro e w5 ⟨rfl, hb5⟩
                  rw [HN.out]
                  have hd5 : Below wr.heap.size wr w5 := (Below.refl _ wr).drew.trans hb5
                  have HB5 : Hid (Below w.heap.size w w5) := hB.out.trans (hd5.mono hB.out.size)
                  have HF5 : Hid (FltIn w.heap.size x a1 c1 (some ⟨b2, o2, none⟩) c2 (some ⟨b3, o3, none⟩) c3 w5) := hF.out.below hd5 hbl
                  refine hK.out _ _ ⟨HF5.out, (hd5.cell (p := ⟨b, o + k, none⟩) (block_lt_of_cell HR.out)).trans HR.out, (hd5.cell (p := ⟨b3, o3 + n * 12 + 1, none⟩) (block_lt_of_cell HQ.out)).trans HQ.out, (hd5.cell (p := ⟨b2, o2 + s * 2, none⟩) (block_lt_of_cell HW.out)).trans HW.out⟩ (fun hS => ?_)
                  clear hK K hb5 hd5
                  refine wpAnyH_take (i := 8) (oi := { dst := some 109, op := _, type := _, pos := _, after := _, guard := none }) (v := .pointer (some ⟨b3, o3 + n * 12, none⟩)) rfl (by kernel_rfl) (by kernel_rfl) (by kernel_rfl) (fun _ _ _ h => h) (Or.inl ⟨by rfl, ?_⟩) hS ?_
                  · intro wy hy
                    obtain ⟨⟨y0, y1, y2, y3⟩, yr, yc, yv⟩ := hy
                    go_simp
                  simp only [Act.put, List.setIfInBounds_toArray, List.set_cons_zero, List.set_cons_succ]
                  refine wpAnyH_take (i := 9) (oi := { dst := some 110, op := _, type := _, pos := _, after := _, guard := none }) (v := .pointer (some ⟨b3, o3 + n * 12 + 1, none⟩)) rfl (by kernel_rfl) (by kernel_rfl) (by kernel_rfl) (fun _ _ _ h => h) (Or.inl ⟨by rfl, ?_⟩) hS ?_
                  · intro wy hy
                    obtain ⟨⟨y0, y1, y2, y3⟩, yr, yc, yv⟩ := hy
                    go_simp
                  simp only [Act.put, List.setIfInBounds_toArray, List.set_cons_zero, List.set_cons_succ]
                  refine wpAnyH_take (i := 10) (oi := { dst := some 111, op := _, type := _, pos := _, after := _, guard := none }) (v := .string c.service) rfl (by kernel_rfl) (by kernel_rfl) (by kernel_rfl) (fun _ _ _ h => h) (Or.inl ⟨by rfl, ?_⟩) hS ?_
                  · intro wy hy
                    obtain ⟨⟨y0, y1, y2, y3⟩, yr, yc, yv⟩ := hy
                    go_simp
                  simp only [Act.put, List.setIfInBounds_toArray, List.set_cons_zero, List.set_cons_succ]
                  refine wpAnyH_take (i := 17) (oi := { dst := some 118, op := _, type := _, pos := _, after := _, guard := none }) (v := .bool bb) rfl (by kernel_rfl) (by kernel_rfl) (by kernel_rfl) (fun _ _ _ h => h) (Or.inl ⟨by rfl, ?_⟩) hS ?_
                  · intro wy hy
                    obtain ⟨⟨y0, y1, y2, y3⟩, yr, yc, yv⟩ := hy
                    go_simp
                  simp only [Act.put, List.setIfInBounds_toArray, List.set_cons_zero, List.set_cons_succ]
                  refine wpAnyH_done (by kernel_rfl) ?_ _
                  clear hS
                  cases bb with
                  | true =>
                    go_wp2_with fail
                    go_roundw
                    case rel => exact ⟨k + 1, G + 1, by omega, by go_num, rfl, by omega, by have h1 := cntTo_le (goS x gone y.name) k; have h2 := hG.out; omega, by show _ = _; rw [cntTo_yes HT.out, hG.out]; omega, HF5, HB5⟩
                    case measure => simp [intOf]; omega
                  | false =>
                    go_wp2_with fail
                    go_roundw
                    case rel => exact ⟨k + 1, G, by omega, by go_num, rfl, by omega, by omega, by show _ = _; rw [cntTo_no HT.out, hG.out], HF5, HB5⟩
                    case measure => simp [intOf]; omega
                · have hke : k = gone.length := by omega
                  subst hke
                  by_cases hbad : 0 < G ∧ M < G
                  · have HN : Hid (¬ May x gone) := by
                      intro h
                      have h1 := h.2 s y hlt2 HY.out
                      have h2 := hG.out
                      have h3 := hM.out
                      have h4 := h1 (by omega)
                      omega
                    obtain ⟨hb1, hb2⟩ := hbad
                    go_wp2_with fail
                    go_ret
                    exact ⟨⟨false, rfl, ⟨(fun h => by cases h), (fun h => absurd h HN.out)⟩⟩, hB.out⟩
                  · have HS : Hid (MayC x gone (s + 1)) := by
                      refine hC.out.step HY.out (fun h0 => ?_)
                      have h2 := hG.out
                      have h3 := hM.out
                      omega
                    by_cases hg0 : 0 < G
                    · have hgm : G ≤ M := by omega
                      clear hbad
                      go_wp2_with fail
                      go_roundw
                      case rel => exact ⟨s + 1, by omega, by go_num, hF, HS, hB⟩
                      case measure => simp [intOf]; omega
                    · clear hbad
                      go_wp2_with fail
                      go_roundw
                      case rel => exact ⟨s + 1, by omega, by go_num, hF, HS, hB⟩
                      case measure => simp [intOf]; omega
        · have hse : s = x.services.length := by omega
          subst hse
          go_wp2_with fail
          go_ret
          exact ⟨⟨true, rfl, ⟨fun _ => ⟨HA.out, hC.out⟩, fun _ => rfl⟩⟩, hB.out⟩

end Go.Proofs.YtbaafgjiblkckaaGreat

namespace Go.Proofs.YtbaafgjiblkckaaGreat
open Go.RowKit Go.WideMaps Go.Maps

set_option maxHeartbeats 2000000 in
set_option maxRecDepth 100000 in
theorem specMayGo_any (x : Flt) (a1 : Option Addr) (c1 : Nat) (a2 : Option Addr) (c2 : Nat) (a3 : Option Addr) (c3 : Nat) (lo : Nat) (gone : List ByteArray) (ga : Option Addr) (gc lo2 : Nat) (w : World) (n1 : SliceC BrtC 6 lo w a1 x.berths) (n2 : SliceC SvcC 2 lo w a2 x.services) (n3 : SliceC CpyC 12 lo w a3 x.copies) (hg : SliceC StrC 1 lo2 w ga gone) (hsm : gone.length ≤ 1048576)
    (l1 : x.berths.length ≤ 1048576) (l2 : x.services.length ≤ 1048576) (l3 : x.copies.length ≤ 1048576) :
    Calls Tryz.prog 6 #[.agg #[.bool x.pack, .slice a1 x.berths.length c1, .slice a2 x.services.length c2, .slice a3 x.copies.length c3], .slice ga gone.length gc] w fun e w' => RetB e (MayV x gone) ∧ Below w.heap.size w w' := by
  have N1 := Hid.intro n1
  have N2 := Hid.intro n2
  have N3 := Hid.intro n3
  have HG := Hid.intro hg
  have HE := Hid.intro (valid_eq x l3)
  clear n1 n2 n3 hg
  go_enter Tryz.func6, Tryz.ntmps6
  go_wp2_with fail
  have hb0 : ∀ o, Below w.heap.size w (w.alloc o) := fun o => (Below.refl _ w).alloc (Nat.le_refl _) o
  have HF0 : Hid (FltIn w.heap.size x a1 c1 a2 c2 a3 c3 (w.alloc (Obj.cells #[.bool x.pack, .slice a1 x.berths.length c1, .slice a2 x.services.length c2, .slice a3 x.copies.length c3] 35))) := ⟨by simp, by simp, by simp, by simp⟩
  refine (specValid_any x a1 c1 a2 c2 a3 c3 lo _ (N1.out.below BrtC.holds (hb0 _) (Nat.le_refl _)) (N2.out.below SvcC.holds (hb0 _) (Nat.le_refl _)) (N3.out.below CpyC.holds (hb0 _) (Nat.le_refl _)) l1 l2 l3).mono ?_
  rintro e w1 ⟨rfl, hb1⟩
  have HB1 : Hid (Below w.heap.size w w1) := (hb0 _).trans (hb1.mono (by simp))
  have HF1 := Hid.intro (HF0.out.below hb1 (by simp))
  obtain ⟨f0, f1, f2, f3⟩ := HF1.out
  clear hb0 hb1 HF0
  cases hv : validS x with
  | false =>
    have HV : Hid (validI x = false) := HE.out.trans hv
    clear hv
    go_wp2_with fail
    go_ret
    exact ⟨⟨false, rfl, ⟨(fun h => by cases h), (fun h => absurd (HV.out.symm.trans h.1) (by decide))⟩⟩, HB1.out⟩
  | true =>
    have HV : Hid (validI x = true) := HE.out.trans hv
    obtain ⟨k2, k3, _, _, hsp, _⟩ := valid_parts HV.out
    have HSP := Hid.intro hsp
    clear hv hsp
    go_wp2_with fail
    refine (l6MayGo_any x a1 c1 a2 c2 a3 c3 lo gone ga gc lo2 _ (N2.out.below SvcC.holds HB1.out (Nat.le_refl _)) (N3.out.below CpyC.holds HB1.out (Nat.le_refl _)) (HG.out.below StrC.holds HB1.out (Nat.le_refl _)) hsm k2 k3 HSP.out).mono ?_
    rintro e w2 ⟨⟨b, rfl, hbb⟩, hb2⟩
    have HBB := Hid.intro hbb
    have HB2 : Hid (Below w.heap.size w w2) := HB1.out.trans (hb2.mono HB1.out.size)
    clear hbb hb2
    go_wp2_with fail
    go_ret
    exact ⟨⟨b, rfl, ⟨fun h => ⟨HV.out, HBB.out.1 h⟩, fun h => HBB.out.2 h.2⟩⟩, HB2.out⟩

end Go.Proofs.YtbaafgjiblkckaaGreat
