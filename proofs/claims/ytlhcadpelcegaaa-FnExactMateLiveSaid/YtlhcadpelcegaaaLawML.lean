/-
  Walk: the law of a tick of a run. Made by mklml.py.
-/
import Derived.Test.YtlhcadpelcegaaaMl7
namespace Go.Proofs.Ytlhcadpelcegaaa
open Go.RowKit

theorem iszL_Rn : (Try.prog.info? 32).map (·.size) = some 11 := by kernel_rfl
theorem iszL_Wnt : (Try.prog.info? 30).map (·.size) = some 7 := by kernel_rfl

set_option maxHeartbeats 8000000 in
set_option maxRecDepth 100000 in
theorem law_any (x : Rn) (y : Wnt) (wanted : Bool) (c : Int) (w : World) (z0 : x.want.copy.size ≤ maxLen) (z2 : x.want.hold.size ≤ maxLen) (y0 : y.copy.size ≤ maxLen) (y2 : y.hold.size ≤ maxLen) :
    Calls Try.prog 7 #[.agg #[.string x.want.copy, .int .i64 x.want.version, .string x.want.hold, .int .i64 x.want.pull, .int .i64 x.want.start, .int .i64 x.want.dies, .int .i64 x.want.grace, .int .i64 x.state, .int .i64 x.left, .int .i64 x.falls, .int .i64 x.until_], .agg #[.string y.copy, .int .i64 y.version, .string y.hold, .int .i64 y.pull, .int .i64 y.start, .int .i64 y.dies, .int .i64 y.grace], .bool wanted, .int .i64 c] w fun e w' => e = .returned (.bool true) ∧ Below w.heap.size w w' := by
  have HXa : Blk w.heap.size #[.string x.want.copy, .int .i64 x.want.version, .string x.want.hold, .int .i64 x.want.pull, .int .i64 x.want.start, .int .i64 x.want.dies, .int .i64 x.want.grace, .int .i64 x.state, .int .i64 x.left, .int .i64 x.falls, .int .i64 x.until_] 32 (w.alloc (.cells #[.string x.want.copy, .int .i64 x.want.version, .string x.want.hold, .int .i64 x.want.pull, .int .i64 x.want.start, .int .i64 x.want.dies, .int .i64 x.want.grace, .int .i64 x.state, .int .i64 x.left, .int .i64 x.falls, .int .i64 x.until_] 32)) := Blk.alloc _ _ _
  have HY0 : Hid (Blk (w.heap.size + 1) #[.string y.copy, .int .i64 y.version, .string y.hold, .int .i64 y.pull, .int .i64 y.start, .int .i64 y.dies, .int .i64 y.grace] 30 ((w.alloc (.cells #[.string x.want.copy, .int .i64 x.want.version, .string x.want.hold, .int .i64 x.want.pull, .int .i64 x.want.start, .int .i64 x.want.dies, .int .i64 x.want.grace, .int .i64 x.state, .int .i64 x.left, .int .i64 x.falls, .int .i64 x.until_] 32)).alloc (.cells #[.string y.copy, .int .i64 y.version, .string y.hold, .int .i64 y.pull, .int .i64 y.start, .int .i64 y.dies, .int .i64 y.grace] 30))) := by
    have := Blk.alloc (w.alloc (.cells #[.string x.want.copy, .int .i64 x.want.version, .string x.want.hold, .int .i64 x.want.pull, .int .i64 x.want.start, .int .i64 x.want.dies, .int .i64 x.want.grace, .int .i64 x.state, .int .i64 x.left, .int .i64 x.falls, .int .i64 x.until_] 32)) #[.string y.copy, .int .i64 y.version, .string y.hold, .int .i64 y.pull, .int .i64 y.start, .int .i64 y.dies, .int .i64 y.grace] 30
    show Blk _ _ _ _
    simpa using this
  have HX0 : Hid (Blk w.heap.size #[.string x.want.copy, .int .i64 x.want.version, .string x.want.hold, .int .i64 x.want.pull, .int .i64 x.want.start, .int .i64 x.want.dies, .int .i64 x.want.grace, .int .i64 x.state, .int .i64 x.left, .int .i64 x.falls, .int .i64 x.until_] 32 ((w.alloc (.cells #[.string x.want.copy, .int .i64 x.want.version, .string x.want.hold, .int .i64 x.want.pull, .int .i64 x.want.start, .int .i64 x.want.dies, .int .i64 x.want.grace, .int .i64 x.state, .int .i64 x.left, .int .i64 x.falls, .int .i64 x.until_] 32)).alloc (.cells #[.string y.copy, .int .i64 y.version, .string y.hold, .int .i64 y.pull, .int .i64 y.start, .int .i64 y.dies, .int .i64 y.grace] 30))) := HXa.below ((Below.refl _ _).alloc (Nat.le_refl _) _) HXa.lt
  have hB0 : Below w.heap.size w ((w.alloc (.cells #[.string x.want.copy, .int .i64 x.want.version, .string x.want.hold, .int .i64 x.want.pull, .int .i64 x.want.start, .int .i64 x.want.dies, .int .i64 x.want.grace, .int .i64 x.state, .int .i64 x.left, .int .i64 x.falls, .int .i64 x.until_] 32)).alloc (.cells #[.string y.copy, .int .i64 y.version, .string y.hold, .int .i64 y.pull, .int .i64 y.start, .int .i64 y.dies, .int .i64 y.grace] 30)) := by go_grown
  clear HXa
  go_enter Try.func7, Try.ntmps7
  go_upto_region 1 with fail
  generalize (w.alloc (Obj.cells #[.string x.want.copy, .int .i64 x.want.version, .string x.want.hold, .int .i64 x.want.pull, .int .i64 x.want.start, .int .i64 x.want.dies, .int .i64 x.want.grace, .int .i64 x.state, .int .i64 x.left, .int .i64 x.falls, .int .i64 x.until_] 32)).alloc (Obj.cells #[.string y.copy, .int .i64 y.version, .string y.hold, .int .i64 y.pull, .int .i64 y.start, .int .i64 y.dies, .int .i64 y.grace] 30) = w0 at *
  go_wp2_with (first | (refine wpList_load_mid rfl 32 _ rfl w.heap.size 0 rfl [.string x.want.copy, .int .i64 x.want.version, .string x.want.hold, .int .i64 x.want.pull, .int .i64 x.want.start, .int .i64 x.want.dies, .int .i64 x.want.grace, .int .i64 x.state, .int .i64 x.left, .int .i64 x.falls, .int .i64 x.until_] _ HX0.out.rangeA Try.underlying32 rfl iszL_Rn ?_) | (refine wpList_load_mid rfl 30 _ rfl (w.heap.size + 1) 0 rfl [.string y.copy, .int .i64 y.version, .string y.hold, .int .i64 y.pull, .int .i64 y.start, .int .i64 y.dies, .int .i64 y.grace] _ HY0.out.rangeA Try.underlying30 rfl iszL_Wnt ?_))
  refine (szRn_any x _ _ z0 z2 (by omega) (by omega)).mono ?_
  rintro e w1 ⟨rfl, hb1⟩
  have HX1 := Hid.intro (HX0.out.below hb1 HX0.out.lt)
  have HY1 := Hid.intro (HY0.out.below hb1 HY0.out.lt)
  have hB1 := hB0.trans (hb1.mono hB0.size)
  clear hb1 hB0 HX0 HY0
  by_cases d : (wRn x : Int) ≤ 1048576
  case neg =>
    rw [szR_neg d]
    go_wp2_with fail
    go_ret
    exact ⟨rfl, hB1⟩
  have HS0 : Hid (x.want.copy.size ≤ 1048576) := by show _ ≤ _; unfold wRn at d; omega
  have HS2 : Hid (x.want.hold.size ≤ 1048576) := by show _ ≤ _; unfold wRn at d; omega
  rw [szR_pos d]
  generalize wRn x = V at *
  go_wp2_with (first | (refine wpList_load_mid rfl 32 _ rfl w.heap.size 0 rfl [.string x.want.copy, .int .i64 x.want.version, .string x.want.hold, .int .i64 x.want.pull, .int .i64 x.want.start, .int .i64 x.want.dies, .int .i64 x.want.grace, .int .i64 x.state, .int .i64 x.left, .int .i64 x.falls, .int .i64 x.until_] _ HX1.out.rangeA Try.underlying32 rfl iszL_Rn ?_) | (refine wpList_load_mid rfl 30 _ rfl (w.heap.size + 1) 0 rfl [.string y.copy, .int .i64 y.version, .string y.hold, .int .i64 y.pull, .int .i64 y.start, .int .i64 y.dies, .int .i64 y.grace] _ HY1.out.rangeA Try.underlying30 rfl iszL_Wnt ?_))
  refine (szWnt_any y _ _ y0 y2 (by omega) (by omega)).mono ?_
  rintro e w2 ⟨rfl, hb2⟩
  have HX2 := Hid.intro (HX1.out.below hb2 HX1.out.lt)
  have HY2 := Hid.intro (HY1.out.below hb2 HY1.out.lt)
  have hB2 := hB1.trans (hb2.mono hB1.size)
  clear hb2 hB1 HX1 HY1
  by_cases d2 : (wWnt y : Int) ≤ 1048576 - (V : Int)
  case neg =>
    rw [szR_neg d2]
    go_wp2_with fail
    go_ret
    exact ⟨rfl, hB2⟩
  rw [szR_pos d2]
  generalize wWnt y = U at *
  go_upto_region 8 with fail
  have HXi := HX2
  have HYi := HY2
  have hBi := hB2
  clear HX2 HY2 hB2
  generalize w2 = wi at *
  go_cut [10, 11] (fun v b wz => ∃ (g : Nat) (F : Rn) (k : Bool), v = .pointer (some ⟨g, 0, none⟩) ∧ b = .bool k ∧ Hid ((F, k) = livS x (!(wanted && eqW y x.want)) c) ∧ Hid (Blk g #[.string F.want.copy, .int .i64 F.want.version, .string F.want.hold, .int .i64 F.want.pull, .int .i64 F.want.start, .int .i64 F.want.dies, .int .i64 F.want.grace, .int .i64 F.state, .int .i64 F.left, .int .i64 F.falls, .int .i64 F.until_] 37 wz) ∧ Hid (Blk w.heap.size #[.string x.want.copy, .int .i64 x.want.version, .string x.want.hold, .int .i64 x.want.pull, .int .i64 x.want.start, .int .i64 x.want.dies, .int .i64 x.want.grace, .int .i64 x.state, .int .i64 x.left, .int .i64 x.falls, .int .i64 x.until_] 32 wz) ∧ Hid (Blk (w.heap.size + 1) #[.string y.copy, .int .i64 y.version, .string y.hold, .int .i64 y.pull, .int .i64 y.start, .int .i64 y.dies, .int .i64 y.grace] 30 wz) ∧ Below w.heap.size w wz ∧ Hid (w.heap.size + 1 < g))
  case first =>
    refine wp_region_held_drew (S := fun wy => Blk w.heap.size #[.string x.want.copy, .int .i64 x.want.version, .string x.want.hold, .int .i64 x.want.pull, .int .i64 x.want.start, .int .i64 x.want.dies, .int .i64 x.want.grace, .int .i64 x.state, .int .i64 x.left, .int .i64 x.falls, .int .i64 x.until_] 32 wy ∧ Blk (w.heap.size + 1) #[.string y.copy, .int .i64 y.version, .string y.hold, .int .i64 y.pull, .int .i64 y.start, .int .i64 y.dies, .int .i64 y.grace] 30 wy) (by kernel_rfl) ⟨HXi.out.drew, HYi.out.drew⟩ (fun hS => ?_)
    have hBd : Below w.heap.size w wi.drew := hBi.trans ((Below.refl w.heap.size wi).drew)
    generalize wi.drew = wd at *
    refine wpAnyH_take (i := 0) (oi := { dst := some 25, op := _, type := _, pos := _, after := _, guard := none }) (v := .agg #[.string x.want.copy, .int .i64 x.want.version, .string x.want.hold, .int .i64 x.want.pull, .int .i64 x.want.start, .int .i64 x.want.dies, .int .i64 x.want.grace, .int .i64 x.state, .int .i64 x.left, .int .i64 x.falls, .int .i64 x.until_]) rfl (by kernel_rfl) (by kernel_rfl) (by kernel_rfl) (fun _ _ _ h => h) (yieldsIf_load_mid (by rfl) _ _ rfl w.heap.size (0) rfl [.string x.want.copy, .int .i64 x.want.version, .string x.want.hold, .int .i64 x.want.pull, .int .i64 x.want.start, .int .i64 x.want.dies, .int .i64 x.want.grace, .int .i64 x.state, .int .i64 x.left, .int .i64 x.falls, .int .i64 x.until_] _ (fun _ h => h.1.rangeA) Try.underlying32 rfl iszL_Rn) hS ?_
    simp only [Act.put, List.setIfInBounds_toArray, List.set_cons_zero, List.set_cons_succ]
    refine wpAnyH_take (i := 2) (oi := { dst := some 27, op := _, type := _, pos := _, after := _, guard := none }) (v := .agg #[.string y.copy, .int .i64 y.version, .string y.hold, .int .i64 y.pull, .int .i64 y.start, .int .i64 y.dies, .int .i64 y.grace]) rfl (by kernel_rfl) (by kernel_rfl) (by kernel_rfl) (fun _ _ _ h => h) (yieldsIf_load_mid (by rfl) _ _ rfl (w.heap.size + 1) (0) rfl [.string y.copy, .int .i64 y.version, .string y.hold, .int .i64 y.pull, .int .i64 y.start, .int .i64 y.dies, .int .i64 y.grace] _ (fun _ h => h.2.rangeA) Try.underlying30 rfl iszL_Wnt) hS ?_
    simp only [Act.put, List.setIfInBounds_toArray, List.set_cons_zero, List.set_cons_succ]
    refine wpAnyH_take (i := 4) (oi := { dst := some 29, op := _, type := _, pos := _, after := _, guard := none }) (v := .bool wanted) rfl (by kernel_rfl) (by kernel_rfl) (by kernel_rfl) (fun _ _ _ h => h) (Or.inl ⟨by rfl, ?_⟩) hS ?_
    · intro wy hy
      clear hy
      go_simp
    simp only [Act.put, List.setIfInBounds_toArray, List.set_cons_zero, List.set_cons_succ]
    refine wpAnyH_take (i := 5) (oi := { dst := some 30, op := _, type := _, pos := _, after := _, guard := none }) (v := .int .i64 c) rfl (by kernel_rfl) (by kernel_rfl) (by kernel_rfl) (fun _ _ _ h => h) (Or.inl ⟨by rfl, ?_⟩) hS ?_
    · intro wy hy
      clear hy
      go_simp
    simp only [Act.put, List.setIfInBounds_toArray, List.set_cons_zero, List.set_cons_succ]
    refine wpAnyH_ready (rs := [1, 10]) (by kernel_rfl) (by simp) (AllReadyH.cons (o := { dst := some 26, op := _, type := _, pos := _, after := _, guard := none }) rfl (fun K hK => ?_) (AllReadyH.cons (o := { dst := some 10, op := _, type := _, pos := _, after := _, guard := none }) rfl (fun K hK => ?_) AllReadyH.nil))
    · go_simp
      refine (toRn_any x _).mono ?_
      rintro e wad ⟨rfl, hb⟩
      have hBad := hBd.trans (hb.mono hBd.size)
      refine hK.out _ _ ⟨hS.1.below hb hS.1.lt, hS.2.below hb hS.2.lt⟩ (fun hS => ?_)
      clear hK K hb
      refine wpAnyH_ready (rs := [3, 10]) (by kernel_rfl) (by simp) (AllReadyH.cons (o := { dst := some 28, op := _, type := _, pos := _, after := _, guard := none }) rfl (fun K hK => ?_) (AllReadyH.cons (o := { dst := some 10, op := _, type := _, pos := _, after := _, guard := none }) rfl (fun K hK => ?_) AllReadyH.nil))
      · go_simp
        refine (toWnt_any y _).mono ?_
        rintro e wbad ⟨rfl, hb⟩
        have hBbad := hBad.trans (hb.mono hBad.size)
        refine hK.out _ _ ⟨hS.1.below hb hS.1.lt, hS.2.below hb hS.2.lt⟩ (fun hS => ?_)
        clear hK K hb
        refine wpAnyH_ready (rs := [6, 10]) (by kernel_rfl) (by simp) (AllReadyH.cons (o := { dst := some 31, op := _, type := _, pos := _, after := _, guard := none }) rfl (fun K hK => ?_) (AllReadyH.cons (o := { dst := some 10, op := _, type := _, pos := _, after := _, guard := none }) rfl (fun K hK => ?_) AllReadyH.nil))
        · go_simp
          refine (specLive_any x y wanted c _).mono ?_
          rintro e wcbad ⟨F, k, hFk, rfl, hb⟩
          have hBcbad := hBbad.trans (hb.mono hBbad.size)
          refine hK.out _ _ ⟨hS.1.below hb hS.1.lt, hS.2.below hb hS.2.lt⟩ (fun hS => ?_)
          clear hK K hb
          refine wpAnyH_take (i := 7) (oi := { dst := some 24, op := _, type := _, pos := _, after := _, guard := none }) (v := .tuple #[.agg #[.string F.want.copy, .int .i64 F.want.version, .string F.want.hold, .int .i64 F.want.pull, .int .i64 F.want.start, .int .i64 F.want.dies, .int .i64 F.want.grace, .int .i64 F.state, .int .i64 F.left, .int .i64 F.falls, .int .i64 F.until_], .bool k]) rfl (by kernel_rfl) (by kernel_rfl) (by kernel_rfl) (fun _ _ _ h => h) (Or.inl ⟨by rfl, ?_⟩) hS ?_
          · intro wy hy
            clear hy
            go_simp
          simp only [Act.put, List.setIfInBounds_toArray, List.set_cons_zero, List.set_cons_succ]
          refine wpAnyH_take (i := 8) (oi := { dst := some 32, op := _, type := _, pos := _, after := _, guard := none }) (v := .agg #[.string F.want.copy, .int .i64 F.want.version, .string F.want.hold, .int .i64 F.want.pull, .int .i64 F.want.start, .int .i64 F.want.dies, .int .i64 F.want.grace, .int .i64 F.state, .int .i64 F.left, .int .i64 F.falls, .int .i64 F.until_]) rfl (by kernel_rfl) (by kernel_rfl) (by kernel_rfl) (fun _ _ _ h => h) (Or.inl ⟨by rfl, ?_⟩) hS ?_
          · intro wy hy
            clear hy
            go_simp
          simp only [Act.put, List.setIfInBounds_toArray, List.set_cons_zero, List.set_cons_succ]
          refine wpAnyH_take (i := 9) (oi := { dst := some 33, op := _, type := _, pos := _, after := _, guard := none }) (v := .bool k) rfl (by kernel_rfl) (by kernel_rfl) (by kernel_rfl) (fun _ _ _ h => h) (Or.inl ⟨by rfl, ?_⟩) hS ?_
          · intro wy hy
            clear hy
            go_simp
          simp only [Act.put, List.setIfInBounds_toArray, List.set_cons_zero, List.set_cons_succ]
          refine wpAnyH_ready (rs := [10]) (by kernel_rfl) (by simp) (AllReadyH.cons (o := { dst := some 10, op := _, type := _, pos := _, after := _, guard := none }) rfl (fun K hK => ?_) AllReadyH.nil)
          go_simp
          have HGzcbad := Hid.intro (Blk.alloc wcbad #[.string ⟨#[]⟩, .int .i64 0, .string ⟨#[]⟩, .int .i64 0, .int .i64 0, .int .i64 0, .int .i64 0, .int .i64 0, .int .i64 0, .int .i64 0, .int .i64 0] 37)
          have hba : Below wcbad.heap.size wcbad (wcbad.alloc (Obj.cells #[.string ⟨#[]⟩, .int .i64 0, .string ⟨#[]⟩, .int .i64 0, .int .i64 0, .int .i64 0, .int .i64 0, .int .i64 0, .int .i64 0, .int .i64 0, .int .i64 0] 37)) := (Below.refl _ _).alloc (Nat.le_refl _) _
          have hBzcbad := hBcbad.trans (hba.mono hBcbad.size)
          have hga : w.heap.size + 1 < wcbad.heap.size := hS.2.lt
          refine hK.out _ _ ⟨hS.1.below hba hS.1.lt, hS.2.below hba hS.2.lt⟩ (fun hS => ?_)
          clear hK K hba
          generalize wcbad.alloc (Obj.cells #[.string ⟨#[]⟩, .int .i64 0, .string ⟨#[]⟩, .int .i64 0, .int .i64 0, .int .i64 0, .int .i64 0, .int .i64 0, .int .i64 0, .int .i64 0, .int .i64 0] 37) = wzcbad at *
          generalize wcbad.heap.size = ga at *
          refine wpAnyH_ready (rs := [11]) (by kernel_rfl) (by simp) (AllReadyH.cons (o := { dst := none, op := _, type := _, pos := _, after := _, guard := none }) rfl (fun K hK => ?_) AllReadyH.nil)
          rw [if_pos (by rfl)]
          refine wp_store_mid 37 (.tmp 10) (.tmp 32) (by rfl) ga 0 #[.string F.want.copy, .int .i64 F.want.version, .string F.want.hold, .int .i64 F.want.pull, .int .i64 F.want.start, .int .i64 F.want.dies, .int .i64 F.want.grace, .int .i64 F.state, .int .i64 F.left, .int .i64 F.falls, .int .i64 F.until_] (by rfl) (by rfl) HGzcbad.out.there isz_Rn (by simp [Value.oneCell']) ?_
          have HGf : Hid (Blk ga #[.string F.want.copy, .int .i64 F.want.version, .string F.want.hold, .int .i64 F.want.pull, .int .i64 F.want.start, .int .i64 F.want.dies, .int .i64 F.want.grace, .int .i64 F.state, .int .i64 F.left, .int .i64 F.falls, .int .i64 F.until_] 37 (wzcbad.setCells ga 0 [.string F.want.copy, .int .i64 F.want.version, .string F.want.hold, .int .i64 F.want.pull, .int .i64 F.want.start, .int .i64 F.want.dies, .int .i64 F.want.grace, .int .i64 F.state, .int .i64 F.left, .int .i64 F.falls, .int .i64 F.until_])) := HGzcbad.out.setAll #[.string F.want.copy, .int .i64 F.want.version, .string F.want.hold, .int .i64 F.want.pull, .int .i64 F.want.start, .int .i64 F.want.dies, .int .i64 F.want.grace, .int .i64 F.state, .int .i64 F.left, .int .i64 F.falls, .int .i64 F.until_] rfl
          have hbs : Below ga wzcbad (wzcbad.setCells ga 0 [.string F.want.copy, .int .i64 F.want.version, .string F.want.hold, .int .i64 F.want.pull, .int .i64 F.want.start, .int .i64 F.want.dies, .int .i64 F.want.grace, .int .i64 F.state, .int .i64 F.left, .int .i64 F.falls, .int .i64 F.until_]) := below_setCells (Nat.le_refl _) _ _ _ (Below.refl _ _)
          have hBf := hBzcbad.trans (hbs.mono (by omega))
          refine hK.out _ _ ⟨hS.1.below hbs (by omega), hS.2.below hbs (by omega)⟩ (fun hS => ?_)
          clear hK K hbs
          generalize wzcbad.setCells ga 0 [.string F.want.copy, .int .i64 F.want.version, .string F.want.hold, .int .i64 F.want.pull, .int .i64 F.want.start, .int .i64 F.want.dies, .int .i64 F.want.grace, .int .i64 F.state, .int .i64 F.left, .int .i64 F.falls, .int .i64 F.until_] = wf at *
          refine wpAnyH_take (i := 12) (oi := { dst := some 11, op := _, type := _, pos := _, after := _, guard := none }) (v := .bool k) rfl (by kernel_rfl) (by kernel_rfl) (by kernel_rfl) (fun _ _ _ h => h) (Or.inl ⟨by rfl, ?_⟩) hS ?_
          · intro wy hy
            clear hy
            go_simp
          simp only [Act.put, List.setIfInBounds_toArray, List.set_cons_zero, List.set_cons_succ]
          refine wpAnyH_done (by kernel_rfl) ?_ _
          have HS := Hid.intro hS
          clear hS
          go_wp2_with fail
          go_meet
          exact ⟨ga, F, k, rfl, rfl, hFk, HGf, HS.out.1, HS.out.2, hBf, hga⟩
        · go_simp
          have HGzbad := Hid.intro (Blk.alloc wbad #[.string ⟨#[]⟩, .int .i64 0, .string ⟨#[]⟩, .int .i64 0, .int .i64 0, .int .i64 0, .int .i64 0, .int .i64 0, .int .i64 0, .int .i64 0, .int .i64 0] 37)
          have hba : Below wbad.heap.size wbad (wbad.alloc (Obj.cells #[.string ⟨#[]⟩, .int .i64 0, .string ⟨#[]⟩, .int .i64 0, .int .i64 0, .int .i64 0, .int .i64 0, .int .i64 0, .int .i64 0, .int .i64 0, .int .i64 0] 37)) := (Below.refl _ _).alloc (Nat.le_refl _) _
          have hBzbad := hBbad.trans (hba.mono hBbad.size)
          have hga : w.heap.size + 1 < wbad.heap.size := hS.2.lt
          refine hK.out _ _ ⟨hS.1.below hba hS.1.lt, hS.2.below hba hS.2.lt⟩ (fun hS => ?_)
          clear hK K hba
          generalize wbad.alloc (Obj.cells #[.string ⟨#[]⟩, .int .i64 0, .string ⟨#[]⟩, .int .i64 0, .int .i64 0, .int .i64 0, .int .i64 0, .int .i64 0, .int .i64 0, .int .i64 0, .int .i64 0] 37) = wzbad at *
          generalize wbad.heap.size = ga at *
          refine wpAnyH_ready (rs := [6]) (by kernel_rfl) (by simp) (AllReadyH.cons (o := { dst := some 31, op := _, type := _, pos := _, after := _, guard := none }) rfl (fun K hK => ?_) AllReadyH.nil)
          go_simp
          refine (specLive_any x y wanted c _).mono ?_
          rintro e wczbad ⟨F, k, hFk, rfl, hb⟩
          have hBczbad := hBzbad.trans (hb.mono hBzbad.size)
          have HGczbad := Hid.intro (HGzbad.out.below hb HGzbad.out.lt)
          refine hK.out _ _ ⟨hS.1.below hb hS.1.lt, hS.2.below hb hS.2.lt⟩ (fun hS => ?_)
          clear hK K hb
          refine wpAnyH_take (i := 7) (oi := { dst := some 24, op := _, type := _, pos := _, after := _, guard := none }) (v := .tuple #[.agg #[.string F.want.copy, .int .i64 F.want.version, .string F.want.hold, .int .i64 F.want.pull, .int .i64 F.want.start, .int .i64 F.want.dies, .int .i64 F.want.grace, .int .i64 F.state, .int .i64 F.left, .int .i64 F.falls, .int .i64 F.until_], .bool k]) rfl (by kernel_rfl) (by kernel_rfl) (by kernel_rfl) (fun _ _ _ h => h) (Or.inl ⟨by rfl, ?_⟩) hS ?_
          · intro wy hy
            clear hy
            go_simp
          simp only [Act.put, List.setIfInBounds_toArray, List.set_cons_zero, List.set_cons_succ]
          refine wpAnyH_take (i := 8) (oi := { dst := some 32, op := _, type := _, pos := _, after := _, guard := none }) (v := .agg #[.string F.want.copy, .int .i64 F.want.version, .string F.want.hold, .int .i64 F.want.pull, .int .i64 F.want.start, .int .i64 F.want.dies, .int .i64 F.want.grace, .int .i64 F.state, .int .i64 F.left, .int .i64 F.falls, .int .i64 F.until_]) rfl (by kernel_rfl) (by kernel_rfl) (by kernel_rfl) (fun _ _ _ h => h) (Or.inl ⟨by rfl, ?_⟩) hS ?_
          · intro wy hy
            clear hy
            go_simp
          simp only [Act.put, List.setIfInBounds_toArray, List.set_cons_zero, List.set_cons_succ]
          refine wpAnyH_take (i := 9) (oi := { dst := some 33, op := _, type := _, pos := _, after := _, guard := none }) (v := .bool k) rfl (by kernel_rfl) (by kernel_rfl) (by kernel_rfl) (fun _ _ _ h => h) (Or.inl ⟨by rfl, ?_⟩) hS ?_
          · intro wy hy
            clear hy
            go_simp
          simp only [Act.put, List.setIfInBounds_toArray, List.set_cons_zero, List.set_cons_succ]
          refine wpAnyH_ready (rs := [11]) (by kernel_rfl) (by simp) (AllReadyH.cons (o := { dst := none, op := _, type := _, pos := _, after := _, guard := none }) rfl (fun K hK => ?_) AllReadyH.nil)
          rw [if_pos (by rfl)]
          refine wp_store_mid 37 (.tmp 10) (.tmp 32) (by rfl) ga 0 #[.string F.want.copy, .int .i64 F.want.version, .string F.want.hold, .int .i64 F.want.pull, .int .i64 F.want.start, .int .i64 F.want.dies, .int .i64 F.want.grace, .int .i64 F.state, .int .i64 F.left, .int .i64 F.falls, .int .i64 F.until_] (by rfl) (by rfl) HGczbad.out.there isz_Rn (by simp [Value.oneCell']) ?_
          have HGf : Hid (Blk ga #[.string F.want.copy, .int .i64 F.want.version, .string F.want.hold, .int .i64 F.want.pull, .int .i64 F.want.start, .int .i64 F.want.dies, .int .i64 F.want.grace, .int .i64 F.state, .int .i64 F.left, .int .i64 F.falls, .int .i64 F.until_] 37 (wczbad.setCells ga 0 [.string F.want.copy, .int .i64 F.want.version, .string F.want.hold, .int .i64 F.want.pull, .int .i64 F.want.start, .int .i64 F.want.dies, .int .i64 F.want.grace, .int .i64 F.state, .int .i64 F.left, .int .i64 F.falls, .int .i64 F.until_])) := HGczbad.out.setAll #[.string F.want.copy, .int .i64 F.want.version, .string F.want.hold, .int .i64 F.want.pull, .int .i64 F.want.start, .int .i64 F.want.dies, .int .i64 F.want.grace, .int .i64 F.state, .int .i64 F.left, .int .i64 F.falls, .int .i64 F.until_] rfl
          have hbs : Below ga wczbad (wczbad.setCells ga 0 [.string F.want.copy, .int .i64 F.want.version, .string F.want.hold, .int .i64 F.want.pull, .int .i64 F.want.start, .int .i64 F.want.dies, .int .i64 F.want.grace, .int .i64 F.state, .int .i64 F.left, .int .i64 F.falls, .int .i64 F.until_]) := below_setCells (Nat.le_refl _) _ _ _ (Below.refl _ _)
          have hBf := hBczbad.trans (hbs.mono (by omega))
          refine hK.out _ _ ⟨hS.1.below hbs (by omega), hS.2.below hbs (by omega)⟩ (fun hS => ?_)
          clear hK K hbs
          generalize wczbad.setCells ga 0 [.string F.want.copy, .int .i64 F.want.version, .string F.want.hold, .int .i64 F.want.pull, .int .i64 F.want.start, .int .i64 F.want.dies, .int .i64 F.want.grace, .int .i64 F.state, .int .i64 F.left, .int .i64 F.falls, .int .i64 F.until_] = wf at *
          refine wpAnyH_take (i := 12) (oi := { dst := some 11, op := _, type := _, pos := _, after := _, guard := none }) (v := .bool k) rfl (by kernel_rfl) (by kernel_rfl) (by kernel_rfl) (fun _ _ _ h => h) (Or.inl ⟨by rfl, ?_⟩) hS ?_
          · intro wy hy
            clear hy
            go_simp
          simp only [Act.put, List.setIfInBounds_toArray, List.set_cons_zero, List.set_cons_succ]
          refine wpAnyH_done (by kernel_rfl) ?_ _
          have HS := Hid.intro hS
          clear hS
          go_wp2_with fail
          go_meet
          exact ⟨ga, F, k, rfl, rfl, hFk, HGf, HS.out.1, HS.out.2, hBf, hga⟩
      · go_simp
        have HGzad := Hid.intro (Blk.alloc wad #[.string ⟨#[]⟩, .int .i64 0, .string ⟨#[]⟩, .int .i64 0, .int .i64 0, .int .i64 0, .int .i64 0, .int .i64 0, .int .i64 0, .int .i64 0, .int .i64 0] 37)
        have hba : Below wad.heap.size wad (wad.alloc (Obj.cells #[.string ⟨#[]⟩, .int .i64 0, .string ⟨#[]⟩, .int .i64 0, .int .i64 0, .int .i64 0, .int .i64 0, .int .i64 0, .int .i64 0, .int .i64 0, .int .i64 0] 37)) := (Below.refl _ _).alloc (Nat.le_refl _) _
        have hBzad := hBad.trans (hba.mono hBad.size)
        have hga : w.heap.size + 1 < wad.heap.size := hS.2.lt
        refine hK.out _ _ ⟨hS.1.below hba hS.1.lt, hS.2.below hba hS.2.lt⟩ (fun hS => ?_)
        clear hK K hba
        generalize wad.alloc (Obj.cells #[.string ⟨#[]⟩, .int .i64 0, .string ⟨#[]⟩, .int .i64 0, .int .i64 0, .int .i64 0, .int .i64 0, .int .i64 0, .int .i64 0, .int .i64 0, .int .i64 0] 37) = wzad at *
        generalize wad.heap.size = ga at *
        refine wpAnyH_ready (rs := [3]) (by kernel_rfl) (by simp) (AllReadyH.cons (o := { dst := some 28, op := _, type := _, pos := _, after := _, guard := none }) rfl (fun K hK => ?_) AllReadyH.nil)
        go_simp
        refine (toWnt_any y _).mono ?_
        rintro e wbzad ⟨rfl, hb⟩
        have hBbzad := hBzad.trans (hb.mono hBzad.size)
        have HGbzad := Hid.intro (HGzad.out.below hb HGzad.out.lt)
        refine hK.out _ _ ⟨hS.1.below hb hS.1.lt, hS.2.below hb hS.2.lt⟩ (fun hS => ?_)
        clear hK K hb
        refine wpAnyH_ready (rs := [6]) (by kernel_rfl) (by simp) (AllReadyH.cons (o := { dst := some 31, op := _, type := _, pos := _, after := _, guard := none }) rfl (fun K hK => ?_) AllReadyH.nil)
        go_simp
        refine (specLive_any x y wanted c _).mono ?_
        rintro e wcbzad ⟨F, k, hFk, rfl, hb⟩
        have hBcbzad := hBbzad.trans (hb.mono hBbzad.size)
        have HGcbzad := Hid.intro (HGbzad.out.below hb HGbzad.out.lt)
        refine hK.out _ _ ⟨hS.1.below hb hS.1.lt, hS.2.below hb hS.2.lt⟩ (fun hS => ?_)
        clear hK K hb
        refine wpAnyH_take (i := 7) (oi := { dst := some 24, op := _, type := _, pos := _, after := _, guard := none }) (v := .tuple #[.agg #[.string F.want.copy, .int .i64 F.want.version, .string F.want.hold, .int .i64 F.want.pull, .int .i64 F.want.start, .int .i64 F.want.dies, .int .i64 F.want.grace, .int .i64 F.state, .int .i64 F.left, .int .i64 F.falls, .int .i64 F.until_], .bool k]) rfl (by kernel_rfl) (by kernel_rfl) (by kernel_rfl) (fun _ _ _ h => h) (Or.inl ⟨by rfl, ?_⟩) hS ?_
        · intro wy hy
          clear hy
          go_simp
        simp only [Act.put, List.setIfInBounds_toArray, List.set_cons_zero, List.set_cons_succ]
        refine wpAnyH_take (i := 8) (oi := { dst := some 32, op := _, type := _, pos := _, after := _, guard := none }) (v := .agg #[.string F.want.copy, .int .i64 F.want.version, .string F.want.hold, .int .i64 F.want.pull, .int .i64 F.want.start, .int .i64 F.want.dies, .int .i64 F.want.grace, .int .i64 F.state, .int .i64 F.left, .int .i64 F.falls, .int .i64 F.until_]) rfl (by kernel_rfl) (by kernel_rfl) (by kernel_rfl) (fun _ _ _ h => h) (Or.inl ⟨by rfl, ?_⟩) hS ?_
        · intro wy hy
          clear hy
          go_simp
        simp only [Act.put, List.setIfInBounds_toArray, List.set_cons_zero, List.set_cons_succ]
        refine wpAnyH_take (i := 9) (oi := { dst := some 33, op := _, type := _, pos := _, after := _, guard := none }) (v := .bool k) rfl (by kernel_rfl) (by kernel_rfl) (by kernel_rfl) (fun _ _ _ h => h) (Or.inl ⟨by rfl, ?_⟩) hS ?_
        · intro wy hy
          clear hy
          go_simp
        simp only [Act.put, List.setIfInBounds_toArray, List.set_cons_zero, List.set_cons_succ]
        refine wpAnyH_ready (rs := [11]) (by kernel_rfl) (by simp) (AllReadyH.cons (o := { dst := none, op := _, type := _, pos := _, after := _, guard := none }) rfl (fun K hK => ?_) AllReadyH.nil)
        rw [if_pos (by rfl)]
        refine wp_store_mid 37 (.tmp 10) (.tmp 32) (by rfl) ga 0 #[.string F.want.copy, .int .i64 F.want.version, .string F.want.hold, .int .i64 F.want.pull, .int .i64 F.want.start, .int .i64 F.want.dies, .int .i64 F.want.grace, .int .i64 F.state, .int .i64 F.left, .int .i64 F.falls, .int .i64 F.until_] (by rfl) (by rfl) HGcbzad.out.there isz_Rn (by simp [Value.oneCell']) ?_
        have HGf : Hid (Blk ga #[.string F.want.copy, .int .i64 F.want.version, .string F.want.hold, .int .i64 F.want.pull, .int .i64 F.want.start, .int .i64 F.want.dies, .int .i64 F.want.grace, .int .i64 F.state, .int .i64 F.left, .int .i64 F.falls, .int .i64 F.until_] 37 (wcbzad.setCells ga 0 [.string F.want.copy, .int .i64 F.want.version, .string F.want.hold, .int .i64 F.want.pull, .int .i64 F.want.start, .int .i64 F.want.dies, .int .i64 F.want.grace, .int .i64 F.state, .int .i64 F.left, .int .i64 F.falls, .int .i64 F.until_])) := HGcbzad.out.setAll #[.string F.want.copy, .int .i64 F.want.version, .string F.want.hold, .int .i64 F.want.pull, .int .i64 F.want.start, .int .i64 F.want.dies, .int .i64 F.want.grace, .int .i64 F.state, .int .i64 F.left, .int .i64 F.falls, .int .i64 F.until_] rfl
        have hbs : Below ga wcbzad (wcbzad.setCells ga 0 [.string F.want.copy, .int .i64 F.want.version, .string F.want.hold, .int .i64 F.want.pull, .int .i64 F.want.start, .int .i64 F.want.dies, .int .i64 F.want.grace, .int .i64 F.state, .int .i64 F.left, .int .i64 F.falls, .int .i64 F.until_]) := below_setCells (Nat.le_refl _) _ _ _ (Below.refl _ _)
        have hBf := hBcbzad.trans (hbs.mono (by omega))
        refine hK.out _ _ ⟨hS.1.below hbs (by omega), hS.2.below hbs (by omega)⟩ (fun hS => ?_)
        clear hK K hbs
        generalize wcbzad.setCells ga 0 [.string F.want.copy, .int .i64 F.want.version, .string F.want.hold, .int .i64 F.want.pull, .int .i64 F.want.start, .int .i64 F.want.dies, .int .i64 F.want.grace, .int .i64 F.state, .int .i64 F.left, .int .i64 F.falls, .int .i64 F.until_] = wf at *
        refine wpAnyH_take (i := 12) (oi := { dst := some 11, op := _, type := _, pos := _, after := _, guard := none }) (v := .bool k) rfl (by kernel_rfl) (by kernel_rfl) (by kernel_rfl) (fun _ _ _ h => h) (Or.inl ⟨by rfl, ?_⟩) hS ?_
        · intro wy hy
          clear hy
          go_simp
        simp only [Act.put, List.setIfInBounds_toArray, List.set_cons_zero, List.set_cons_succ]
        refine wpAnyH_done (by kernel_rfl) ?_ _
        have HS := Hid.intro hS
        clear hS
        go_wp2_with fail
        go_meet
        exact ⟨ga, F, k, rfl, rfl, hFk, HGf, HS.out.1, HS.out.2, hBf, hga⟩
    · go_simp
      have HGzd := Hid.intro (Blk.alloc wd #[.string ⟨#[]⟩, .int .i64 0, .string ⟨#[]⟩, .int .i64 0, .int .i64 0, .int .i64 0, .int .i64 0, .int .i64 0, .int .i64 0, .int .i64 0, .int .i64 0] 37)
      have hba : Below wd.heap.size wd (wd.alloc (Obj.cells #[.string ⟨#[]⟩, .int .i64 0, .string ⟨#[]⟩, .int .i64 0, .int .i64 0, .int .i64 0, .int .i64 0, .int .i64 0, .int .i64 0, .int .i64 0, .int .i64 0] 37)) := (Below.refl _ _).alloc (Nat.le_refl _) _
      have hBzd := hBd.trans (hba.mono hBd.size)
      have hga : w.heap.size + 1 < wd.heap.size := hS.2.lt
      refine hK.out _ _ ⟨hS.1.below hba hS.1.lt, hS.2.below hba hS.2.lt⟩ (fun hS => ?_)
      clear hK K hba
      generalize wd.alloc (Obj.cells #[.string ⟨#[]⟩, .int .i64 0, .string ⟨#[]⟩, .int .i64 0, .int .i64 0, .int .i64 0, .int .i64 0, .int .i64 0, .int .i64 0, .int .i64 0, .int .i64 0] 37) = wzd at *
      generalize wd.heap.size = ga at *
      refine wpAnyH_ready (rs := [1]) (by kernel_rfl) (by simp) (AllReadyH.cons (o := { dst := some 26, op := _, type := _, pos := _, after := _, guard := none }) rfl (fun K hK => ?_) AllReadyH.nil)
      go_simp
      refine (toRn_any x _).mono ?_
      rintro e wazd ⟨rfl, hb⟩
      have hBazd := hBzd.trans (hb.mono hBzd.size)
      have HGazd := Hid.intro (HGzd.out.below hb HGzd.out.lt)
      refine hK.out _ _ ⟨hS.1.below hb hS.1.lt, hS.2.below hb hS.2.lt⟩ (fun hS => ?_)
      clear hK K hb
      refine wpAnyH_ready (rs := [3]) (by kernel_rfl) (by simp) (AllReadyH.cons (o := { dst := some 28, op := _, type := _, pos := _, after := _, guard := none }) rfl (fun K hK => ?_) AllReadyH.nil)
      go_simp
      refine (toWnt_any y _).mono ?_
      rintro e wbazd ⟨rfl, hb⟩
      have hBbazd := hBazd.trans (hb.mono hBazd.size)
      have HGbazd := Hid.intro (HGazd.out.below hb HGazd.out.lt)
      refine hK.out _ _ ⟨hS.1.below hb hS.1.lt, hS.2.below hb hS.2.lt⟩ (fun hS => ?_)
      clear hK K hb
      refine wpAnyH_ready (rs := [6]) (by kernel_rfl) (by simp) (AllReadyH.cons (o := { dst := some 31, op := _, type := _, pos := _, after := _, guard := none }) rfl (fun K hK => ?_) AllReadyH.nil)
      go_simp
      refine (specLive_any x y wanted c _).mono ?_
      rintro e wcbazd ⟨F, k, hFk, rfl, hb⟩
      have hBcbazd := hBbazd.trans (hb.mono hBbazd.size)
      have HGcbazd := Hid.intro (HGbazd.out.below hb HGbazd.out.lt)
      refine hK.out _ _ ⟨hS.1.below hb hS.1.lt, hS.2.below hb hS.2.lt⟩ (fun hS => ?_)
      clear hK K hb
      refine wpAnyH_take (i := 7) (oi := { dst := some 24, op := _, type := _, pos := _, after := _, guard := none }) (v := .tuple #[.agg #[.string F.want.copy, .int .i64 F.want.version, .string F.want.hold, .int .i64 F.want.pull, .int .i64 F.want.start, .int .i64 F.want.dies, .int .i64 F.want.grace, .int .i64 F.state, .int .i64 F.left, .int .i64 F.falls, .int .i64 F.until_], .bool k]) rfl (by kernel_rfl) (by kernel_rfl) (by kernel_rfl) (fun _ _ _ h => h) (Or.inl ⟨by rfl, ?_⟩) hS ?_
      · intro wy hy
        clear hy
        go_simp
      simp only [Act.put, List.setIfInBounds_toArray, List.set_cons_zero, List.set_cons_succ]
      refine wpAnyH_take (i := 8) (oi := { dst := some 32, op := _, type := _, pos := _, after := _, guard := none }) (v := .agg #[.string F.want.copy, .int .i64 F.want.version, .string F.want.hold, .int .i64 F.want.pull, .int .i64 F.want.start, .int .i64 F.want.dies, .int .i64 F.want.grace, .int .i64 F.state, .int .i64 F.left, .int .i64 F.falls, .int .i64 F.until_]) rfl (by kernel_rfl) (by kernel_rfl) (by kernel_rfl) (fun _ _ _ h => h) (Or.inl ⟨by rfl, ?_⟩) hS ?_
      · intro wy hy
        clear hy
        go_simp
      simp only [Act.put, List.setIfInBounds_toArray, List.set_cons_zero, List.set_cons_succ]
      refine wpAnyH_take (i := 9) (oi := { dst := some 33, op := _, type := _, pos := _, after := _, guard := none }) (v := .bool k) rfl (by kernel_rfl) (by kernel_rfl) (by kernel_rfl) (fun _ _ _ h => h) (Or.inl ⟨by rfl, ?_⟩) hS ?_
      · intro wy hy
        clear hy
        go_simp
      simp only [Act.put, List.setIfInBounds_toArray, List.set_cons_zero, List.set_cons_succ]
      refine wpAnyH_ready (rs := [11]) (by kernel_rfl) (by simp) (AllReadyH.cons (o := { dst := none, op := _, type := _, pos := _, after := _, guard := none }) rfl (fun K hK => ?_) AllReadyH.nil)
      rw [if_pos (by rfl)]
      refine wp_store_mid 37 (.tmp 10) (.tmp 32) (by rfl) ga 0 #[.string F.want.copy, .int .i64 F.want.version, .string F.want.hold, .int .i64 F.want.pull, .int .i64 F.want.start, .int .i64 F.want.dies, .int .i64 F.want.grace, .int .i64 F.state, .int .i64 F.left, .int .i64 F.falls, .int .i64 F.until_] (by rfl) (by rfl) HGcbazd.out.there isz_Rn (by simp [Value.oneCell']) ?_
      have HGf : Hid (Blk ga #[.string F.want.copy, .int .i64 F.want.version, .string F.want.hold, .int .i64 F.want.pull, .int .i64 F.want.start, .int .i64 F.want.dies, .int .i64 F.want.grace, .int .i64 F.state, .int .i64 F.left, .int .i64 F.falls, .int .i64 F.until_] 37 (wcbazd.setCells ga 0 [.string F.want.copy, .int .i64 F.want.version, .string F.want.hold, .int .i64 F.want.pull, .int .i64 F.want.start, .int .i64 F.want.dies, .int .i64 F.want.grace, .int .i64 F.state, .int .i64 F.left, .int .i64 F.falls, .int .i64 F.until_])) := HGcbazd.out.setAll #[.string F.want.copy, .int .i64 F.want.version, .string F.want.hold, .int .i64 F.want.pull, .int .i64 F.want.start, .int .i64 F.want.dies, .int .i64 F.want.grace, .int .i64 F.state, .int .i64 F.left, .int .i64 F.falls, .int .i64 F.until_] rfl
      have hbs : Below ga wcbazd (wcbazd.setCells ga 0 [.string F.want.copy, .int .i64 F.want.version, .string F.want.hold, .int .i64 F.want.pull, .int .i64 F.want.start, .int .i64 F.want.dies, .int .i64 F.want.grace, .int .i64 F.state, .int .i64 F.left, .int .i64 F.falls, .int .i64 F.until_]) := below_setCells (Nat.le_refl _) _ _ _ (Below.refl _ _)
      have hBf := hBcbazd.trans (hbs.mono (by omega))
      refine hK.out _ _ ⟨hS.1.below hbs (by omega), hS.2.below hbs (by omega)⟩ (fun hS => ?_)
      clear hK K hbs
      generalize wcbazd.setCells ga 0 [.string F.want.copy, .int .i64 F.want.version, .string F.want.hold, .int .i64 F.want.pull, .int .i64 F.want.start, .int .i64 F.want.dies, .int .i64 F.want.grace, .int .i64 F.state, .int .i64 F.left, .int .i64 F.falls, .int .i64 F.until_] = wf at *
      refine wpAnyH_take (i := 12) (oi := { dst := some 11, op := _, type := _, pos := _, after := _, guard := none }) (v := .bool k) rfl (by kernel_rfl) (by kernel_rfl) (by kernel_rfl) (fun _ _ _ h => h) (Or.inl ⟨by rfl, ?_⟩) hS ?_
      · intro wy hy
        clear hy
        go_simp
      simp only [Act.put, List.setIfInBounds_toArray, List.set_cons_zero, List.set_cons_succ]
      refine wpAnyH_done (by kernel_rfl) ?_ _
      have HS := Hid.intro hS
      clear hS
      go_wp2_with fail
      go_meet
      exact ⟨ga, F, k, rfl, rfl, hFk, HGf, HS.out.1, HS.out.2, hBf, hga⟩
  case rest =>
    obtain ⟨g0, F0, k0, rfl, rfl, HF0, HOi, HXi, HYi, hBi, hg0⟩ := hcut
    generalize wc = wi at *
    go_upto_region 9 with fail
    go_cut [12, 13] (fun v b wz => ∃ (g : Nat) (F : Rn) (k : Bool), v = .pointer (some ⟨g, 0, none⟩) ∧ b = .bool k ∧ Hid ((F, k) = livS x (!(wanted && eqW y x.want)) c) ∧ Hid (Blk g #[.string F.want.copy, .int .i64 F.want.version, .string F.want.hold, .int .i64 F.want.pull, .int .i64 F.want.start, .int .i64 F.want.dies, .int .i64 F.want.grace, .int .i64 F.state, .int .i64 F.left, .int .i64 F.falls, .int .i64 F.until_] 37 wz) ∧ Hid (Blk g0 #[.string F0.want.copy, .int .i64 F0.want.version, .string F0.want.hold, .int .i64 F0.want.pull, .int .i64 F0.want.start, .int .i64 F0.want.dies, .int .i64 F0.want.grace, .int .i64 F0.state, .int .i64 F0.left, .int .i64 F0.falls, .int .i64 F0.until_] 37 wz) ∧ Below w.heap.size w wz)
    case first =>
      clear HF0
      refine wp_region_held_drew (S := fun wy => Blk w.heap.size #[.string x.want.copy, .int .i64 x.want.version, .string x.want.hold, .int .i64 x.want.pull, .int .i64 x.want.start, .int .i64 x.want.dies, .int .i64 x.want.grace, .int .i64 x.state, .int .i64 x.left, .int .i64 x.falls, .int .i64 x.until_] 32 wy ∧ Blk (w.heap.size + 1) #[.string y.copy, .int .i64 y.version, .string y.hold, .int .i64 y.pull, .int .i64 y.start, .int .i64 y.dies, .int .i64 y.grace] 30 wy) (by kernel_rfl) ⟨HXi.out.drew, HYi.out.drew⟩ (fun hS => ?_)
      have hBd : Below w.heap.size w wi.drew := hBi.trans ((Below.refl w.heap.size wi).drew)
      have HOd : Hid (Blk g0 #[.string F0.want.copy, .int .i64 F0.want.version, .string F0.want.hold, .int .i64 F0.want.pull, .int .i64 F0.want.start, .int .i64 F0.want.dies, .int .i64 F0.want.grace, .int .i64 F0.state, .int .i64 F0.left, .int .i64 F0.falls, .int .i64 F0.until_] 37 wi.drew) := HOi.out.drew
      generalize wi.drew = wd at *
      refine wpAnyH_take (i := 0) (oi := { dst := some 35, op := _, type := _, pos := _, after := _, guard := none }) (v := .agg #[.string x.want.copy, .int .i64 x.want.version, .string x.want.hold, .int .i64 x.want.pull, .int .i64 x.want.start, .int .i64 x.want.dies, .int .i64 x.want.grace, .int .i64 x.state, .int .i64 x.left, .int .i64 x.falls, .int .i64 x.until_]) rfl (by kernel_rfl) (by kernel_rfl) (by kernel_rfl) (fun _ _ _ h => h) (yieldsIf_load_mid (by rfl) _ _ rfl w.heap.size (0) rfl [.string x.want.copy, .int .i64 x.want.version, .string x.want.hold, .int .i64 x.want.pull, .int .i64 x.want.start, .int .i64 x.want.dies, .int .i64 x.want.grace, .int .i64 x.state, .int .i64 x.left, .int .i64 x.falls, .int .i64 x.until_] _ (fun _ h => h.1.rangeA) Try.underlying32 rfl iszL_Rn) hS ?_
      simp only [Act.put, List.setIfInBounds_toArray, List.set_cons_zero, List.set_cons_succ]
      refine wpAnyH_take (i := 2) (oi := { dst := some 37, op := _, type := _, pos := _, after := _, guard := none }) (v := .agg #[.string y.copy, .int .i64 y.version, .string y.hold, .int .i64 y.pull, .int .i64 y.start, .int .i64 y.dies, .int .i64 y.grace]) rfl (by kernel_rfl) (by kernel_rfl) (by kernel_rfl) (fun _ _ _ h => h) (yieldsIf_load_mid (by rfl) _ _ rfl (w.heap.size + 1) (0) rfl [.string y.copy, .int .i64 y.version, .string y.hold, .int .i64 y.pull, .int .i64 y.start, .int .i64 y.dies, .int .i64 y.grace] _ (fun _ h => h.2.rangeA) Try.underlying30 rfl iszL_Wnt) hS ?_
      simp only [Act.put, List.setIfInBounds_toArray, List.set_cons_zero, List.set_cons_succ]
      refine wpAnyH_take (i := 4) (oi := { dst := some 39, op := _, type := _, pos := _, after := _, guard := none }) (v := .bool wanted) rfl (by kernel_rfl) (by kernel_rfl) (by kernel_rfl) (fun _ _ _ h => h) (Or.inl ⟨by rfl, ?_⟩) hS ?_
      · intro wy hy
        clear hy
        go_simp
      simp only [Act.put, List.setIfInBounds_toArray, List.set_cons_zero, List.set_cons_succ]
      refine wpAnyH_take (i := 5) (oi := { dst := some 40, op := _, type := _, pos := _, after := _, guard := none }) (v := .int .i64 c) rfl (by kernel_rfl) (by kernel_rfl) (by kernel_rfl) (fun _ _ _ h => h) (Or.inl ⟨by rfl, ?_⟩) hS ?_
      · intro wy hy
        clear hy
        go_simp
      simp only [Act.put, List.setIfInBounds_toArray, List.set_cons_zero, List.set_cons_succ]
      refine wpAnyH_ready (rs := [1, 10]) (by kernel_rfl) (by simp) (AllReadyH.cons (o := { dst := some 36, op := _, type := _, pos := _, after := _, guard := none }) rfl (fun K hK => ?_) (AllReadyH.cons (o := { dst := some 12, op := _, type := _, pos := _, after := _, guard := none }) rfl (fun K hK => ?_) AllReadyH.nil))
      · go_simp
        refine (toRn_any x _).mono ?_
        rintro e wad ⟨rfl, hb⟩
        have hBad := hBd.trans (hb.mono hBd.size)
        have HOad := Hid.intro (HOd.out.below hb HOd.out.lt)
        refine hK.out _ _ ⟨hS.1.below hb hS.1.lt, hS.2.below hb hS.2.lt⟩ (fun hS => ?_)
        clear hK K hb
        refine wpAnyH_ready (rs := [3, 10]) (by kernel_rfl) (by simp) (AllReadyH.cons (o := { dst := some 38, op := _, type := _, pos := _, after := _, guard := none }) rfl (fun K hK => ?_) (AllReadyH.cons (o := { dst := some 12, op := _, type := _, pos := _, after := _, guard := none }) rfl (fun K hK => ?_) AllReadyH.nil))
        · go_simp
          refine (toWnt_any y _).mono ?_
          rintro e wbad ⟨rfl, hb⟩
          have hBbad := hBad.trans (hb.mono hBad.size)
          have HObad := Hid.intro (HOad.out.below hb HOad.out.lt)
          refine hK.out _ _ ⟨hS.1.below hb hS.1.lt, hS.2.below hb hS.2.lt⟩ (fun hS => ?_)
          clear hK K hb
          refine wpAnyH_ready (rs := [6, 10]) (by kernel_rfl) (by simp) (AllReadyH.cons (o := { dst := some 41, op := _, type := _, pos := _, after := _, guard := none }) rfl (fun K hK => ?_) (AllReadyH.cons (o := { dst := some 12, op := _, type := _, pos := _, after := _, guard := none }) rfl (fun K hK => ?_) AllReadyH.nil))
          · go_simp
            refine (implLive_any x y wanted c _ HS0.out HS2.out).mono ?_
            rintro e wcbad ⟨F, k, hFk, rfl, hb⟩
            have hBcbad := hBbad.trans (hb.mono hBbad.size)
            have HOcbad := Hid.intro (HObad.out.below hb HObad.out.lt)
            refine hK.out _ _ ⟨hS.1.below hb hS.1.lt, hS.2.below hb hS.2.lt⟩ (fun hS => ?_)
            clear hK K hb
            refine wpAnyH_take (i := 7) (oi := { dst := some 34, op := _, type := _, pos := _, after := _, guard := none }) (v := .tuple #[.agg #[.string F.want.copy, .int .i64 F.want.version, .string F.want.hold, .int .i64 F.want.pull, .int .i64 F.want.start, .int .i64 F.want.dies, .int .i64 F.want.grace, .int .i64 F.state, .int .i64 F.left, .int .i64 F.falls, .int .i64 F.until_], .bool k]) rfl (by kernel_rfl) (by kernel_rfl) (by kernel_rfl) (fun _ _ _ h => h) (Or.inl ⟨by rfl, ?_⟩) hS ?_
            · intro wy hy
              clear hy
              go_simp
            simp only [Act.put, List.setIfInBounds_toArray, List.set_cons_zero, List.set_cons_succ]
            refine wpAnyH_take (i := 8) (oi := { dst := some 42, op := _, type := _, pos := _, after := _, guard := none }) (v := .agg #[.string F.want.copy, .int .i64 F.want.version, .string F.want.hold, .int .i64 F.want.pull, .int .i64 F.want.start, .int .i64 F.want.dies, .int .i64 F.want.grace, .int .i64 F.state, .int .i64 F.left, .int .i64 F.falls, .int .i64 F.until_]) rfl (by kernel_rfl) (by kernel_rfl) (by kernel_rfl) (fun _ _ _ h => h) (Or.inl ⟨by rfl, ?_⟩) hS ?_
            · intro wy hy
              clear hy
              go_simp
            simp only [Act.put, List.setIfInBounds_toArray, List.set_cons_zero, List.set_cons_succ]
            refine wpAnyH_take (i := 9) (oi := { dst := some 43, op := _, type := _, pos := _, after := _, guard := none }) (v := .bool k) rfl (by kernel_rfl) (by kernel_rfl) (by kernel_rfl) (fun _ _ _ h => h) (Or.inl ⟨by rfl, ?_⟩) hS ?_
            · intro wy hy
              clear hy
              go_simp
            simp only [Act.put, List.setIfInBounds_toArray, List.set_cons_zero, List.set_cons_succ]
            refine wpAnyH_ready (rs := [10]) (by kernel_rfl) (by simp) (AllReadyH.cons (o := { dst := some 12, op := _, type := _, pos := _, after := _, guard := none }) rfl (fun K hK => ?_) AllReadyH.nil)
            go_simp
            have HGzcbad := Hid.intro (Blk.alloc wcbad #[.string ⟨#[]⟩, .int .i64 0, .string ⟨#[]⟩, .int .i64 0, .int .i64 0, .int .i64 0, .int .i64 0, .int .i64 0, .int .i64 0, .int .i64 0, .int .i64 0] 37)
            have hba : Below wcbad.heap.size wcbad (wcbad.alloc (Obj.cells #[.string ⟨#[]⟩, .int .i64 0, .string ⟨#[]⟩, .int .i64 0, .int .i64 0, .int .i64 0, .int .i64 0, .int .i64 0, .int .i64 0, .int .i64 0, .int .i64 0] 37)) := (Below.refl _ _).alloc (Nat.le_refl _) _
            have hBzcbad := hBcbad.trans (hba.mono hBcbad.size)
            have hga : w.heap.size + 1 < wcbad.heap.size := hS.2.lt
            have HOzcbad := Hid.intro (HOcbad.out.below hba HOcbad.out.lt)
            have hgHO := HOcbad.out.lt
            refine hK.out _ _ ⟨hS.1.below hba hS.1.lt, hS.2.below hba hS.2.lt⟩ (fun hS => ?_)
            clear hK K hba
            generalize wcbad.alloc (Obj.cells #[.string ⟨#[]⟩, .int .i64 0, .string ⟨#[]⟩, .int .i64 0, .int .i64 0, .int .i64 0, .int .i64 0, .int .i64 0, .int .i64 0, .int .i64 0, .int .i64 0] 37) = wzcbad at *
            generalize wcbad.heap.size = ga at *
            refine wpAnyH_ready (rs := [11]) (by kernel_rfl) (by simp) (AllReadyH.cons (o := { dst := none, op := _, type := _, pos := _, after := _, guard := none }) rfl (fun K hK => ?_) AllReadyH.nil)
            rw [if_pos (by rfl)]
            refine wp_store_mid 37 (.tmp 12) (.tmp 42) (by rfl) ga 0 #[.string F.want.copy, .int .i64 F.want.version, .string F.want.hold, .int .i64 F.want.pull, .int .i64 F.want.start, .int .i64 F.want.dies, .int .i64 F.want.grace, .int .i64 F.state, .int .i64 F.left, .int .i64 F.falls, .int .i64 F.until_] (by rfl) (by rfl) HGzcbad.out.there isz_Rn (by simp [Value.oneCell']) ?_
            have HGf : Hid (Blk ga #[.string F.want.copy, .int .i64 F.want.version, .string F.want.hold, .int .i64 F.want.pull, .int .i64 F.want.start, .int .i64 F.want.dies, .int .i64 F.want.grace, .int .i64 F.state, .int .i64 F.left, .int .i64 F.falls, .int .i64 F.until_] 37 (wzcbad.setCells ga 0 [.string F.want.copy, .int .i64 F.want.version, .string F.want.hold, .int .i64 F.want.pull, .int .i64 F.want.start, .int .i64 F.want.dies, .int .i64 F.want.grace, .int .i64 F.state, .int .i64 F.left, .int .i64 F.falls, .int .i64 F.until_])) := HGzcbad.out.setAll #[.string F.want.copy, .int .i64 F.want.version, .string F.want.hold, .int .i64 F.want.pull, .int .i64 F.want.start, .int .i64 F.want.dies, .int .i64 F.want.grace, .int .i64 F.state, .int .i64 F.left, .int .i64 F.falls, .int .i64 F.until_] rfl
            have hbs : Below ga wzcbad (wzcbad.setCells ga 0 [.string F.want.copy, .int .i64 F.want.version, .string F.want.hold, .int .i64 F.want.pull, .int .i64 F.want.start, .int .i64 F.want.dies, .int .i64 F.want.grace, .int .i64 F.state, .int .i64 F.left, .int .i64 F.falls, .int .i64 F.until_]) := below_setCells (Nat.le_refl _) _ _ _ (Below.refl _ _)
            have hBf := hBzcbad.trans (hbs.mono (by omega))
            have HOf : Hid (Blk g0 #[.string F0.want.copy, .int .i64 F0.want.version, .string F0.want.hold, .int .i64 F0.want.pull, .int .i64 F0.want.start, .int .i64 F0.want.dies, .int .i64 F0.want.grace, .int .i64 F0.state, .int .i64 F0.left, .int .i64 F0.falls, .int .i64 F0.until_] 37 (wzcbad.setCells ga 0 [.string F.want.copy, .int .i64 F.want.version, .string F.want.hold, .int .i64 F.want.pull, .int .i64 F.want.start, .int .i64 F.want.dies, .int .i64 F.want.grace, .int .i64 F.state, .int .i64 F.left, .int .i64 F.falls, .int .i64 F.until_])) := blk_setCells_other (by omega) _ _ _ HOzcbad.out
            refine hK.out _ _ ⟨hS.1.below hbs (by omega), hS.2.below hbs (by omega)⟩ (fun hS => ?_)
            clear hK K hbs
            generalize wzcbad.setCells ga 0 [.string F.want.copy, .int .i64 F.want.version, .string F.want.hold, .int .i64 F.want.pull, .int .i64 F.want.start, .int .i64 F.want.dies, .int .i64 F.want.grace, .int .i64 F.state, .int .i64 F.left, .int .i64 F.falls, .int .i64 F.until_] = wf at *
            refine wpAnyH_take (i := 12) (oi := { dst := some 13, op := _, type := _, pos := _, after := _, guard := none }) (v := .bool k) rfl (by kernel_rfl) (by kernel_rfl) (by kernel_rfl) (fun _ _ _ h => h) (Or.inl ⟨by rfl, ?_⟩) hS ?_
            · intro wy hy
              clear hy
              go_simp
            simp only [Act.put, List.setIfInBounds_toArray, List.set_cons_zero, List.set_cons_succ]
            refine wpAnyH_done (by kernel_rfl) ?_ _
            clear hS
            go_wp2_with fail
            go_meet
            exact ⟨ga, F, k, rfl, rfl, hFk.trans (live_eq x _ c), HGf, HOf, hBf⟩
          · go_simp
            have HGzbad := Hid.intro (Blk.alloc wbad #[.string ⟨#[]⟩, .int .i64 0, .string ⟨#[]⟩, .int .i64 0, .int .i64 0, .int .i64 0, .int .i64 0, .int .i64 0, .int .i64 0, .int .i64 0, .int .i64 0] 37)
            have hba : Below wbad.heap.size wbad (wbad.alloc (Obj.cells #[.string ⟨#[]⟩, .int .i64 0, .string ⟨#[]⟩, .int .i64 0, .int .i64 0, .int .i64 0, .int .i64 0, .int .i64 0, .int .i64 0, .int .i64 0, .int .i64 0] 37)) := (Below.refl _ _).alloc (Nat.le_refl _) _
            have hBzbad := hBbad.trans (hba.mono hBbad.size)
            have hga : w.heap.size + 1 < wbad.heap.size := hS.2.lt
            have HOzbad := Hid.intro (HObad.out.below hba HObad.out.lt)
            have hgHO := HObad.out.lt
            refine hK.out _ _ ⟨hS.1.below hba hS.1.lt, hS.2.below hba hS.2.lt⟩ (fun hS => ?_)
            clear hK K hba
            generalize wbad.alloc (Obj.cells #[.string ⟨#[]⟩, .int .i64 0, .string ⟨#[]⟩, .int .i64 0, .int .i64 0, .int .i64 0, .int .i64 0, .int .i64 0, .int .i64 0, .int .i64 0, .int .i64 0] 37) = wzbad at *
            generalize wbad.heap.size = ga at *
            refine wpAnyH_ready (rs := [6]) (by kernel_rfl) (by simp) (AllReadyH.cons (o := { dst := some 41, op := _, type := _, pos := _, after := _, guard := none }) rfl (fun K hK => ?_) AllReadyH.nil)
            go_simp
            refine (implLive_any x y wanted c _ HS0.out HS2.out).mono ?_
            rintro e wczbad ⟨F, k, hFk, rfl, hb⟩
            have hBczbad := hBzbad.trans (hb.mono hBzbad.size)
            have HOczbad := Hid.intro (HOzbad.out.below hb HOzbad.out.lt)
            have HGczbad := Hid.intro (HGzbad.out.below hb HGzbad.out.lt)
            refine hK.out _ _ ⟨hS.1.below hb hS.1.lt, hS.2.below hb hS.2.lt⟩ (fun hS => ?_)
            clear hK K hb
            refine wpAnyH_take (i := 7) (oi := { dst := some 34, op := _, type := _, pos := _, after := _, guard := none }) (v := .tuple #[.agg #[.string F.want.copy, .int .i64 F.want.version, .string F.want.hold, .int .i64 F.want.pull, .int .i64 F.want.start, .int .i64 F.want.dies, .int .i64 F.want.grace, .int .i64 F.state, .int .i64 F.left, .int .i64 F.falls, .int .i64 F.until_], .bool k]) rfl (by kernel_rfl) (by kernel_rfl) (by kernel_rfl) (fun _ _ _ h => h) (Or.inl ⟨by rfl, ?_⟩) hS ?_
            · intro wy hy
              clear hy
              go_simp
            simp only [Act.put, List.setIfInBounds_toArray, List.set_cons_zero, List.set_cons_succ]
            refine wpAnyH_take (i := 8) (oi := { dst := some 42, op := _, type := _, pos := _, after := _, guard := none }) (v := .agg #[.string F.want.copy, .int .i64 F.want.version, .string F.want.hold, .int .i64 F.want.pull, .int .i64 F.want.start, .int .i64 F.want.dies, .int .i64 F.want.grace, .int .i64 F.state, .int .i64 F.left, .int .i64 F.falls, .int .i64 F.until_]) rfl (by kernel_rfl) (by kernel_rfl) (by kernel_rfl) (fun _ _ _ h => h) (Or.inl ⟨by rfl, ?_⟩) hS ?_
            · intro wy hy
              clear hy
              go_simp
            simp only [Act.put, List.setIfInBounds_toArray, List.set_cons_zero, List.set_cons_succ]
            refine wpAnyH_take (i := 9) (oi := { dst := some 43, op := _, type := _, pos := _, after := _, guard := none }) (v := .bool k) rfl (by kernel_rfl) (by kernel_rfl) (by kernel_rfl) (fun _ _ _ h => h) (Or.inl ⟨by rfl, ?_⟩) hS ?_
            · intro wy hy
              clear hy
              go_simp
            simp only [Act.put, List.setIfInBounds_toArray, List.set_cons_zero, List.set_cons_succ]
            refine wpAnyH_ready (rs := [11]) (by kernel_rfl) (by simp) (AllReadyH.cons (o := { dst := none, op := _, type := _, pos := _, after := _, guard := none }) rfl (fun K hK => ?_) AllReadyH.nil)
            rw [if_pos (by rfl)]
            refine wp_store_mid 37 (.tmp 12) (.tmp 42) (by rfl) ga 0 #[.string F.want.copy, .int .i64 F.want.version, .string F.want.hold, .int .i64 F.want.pull, .int .i64 F.want.start, .int .i64 F.want.dies, .int .i64 F.want.grace, .int .i64 F.state, .int .i64 F.left, .int .i64 F.falls, .int .i64 F.until_] (by rfl) (by rfl) HGczbad.out.there isz_Rn (by simp [Value.oneCell']) ?_
            have HGf : Hid (Blk ga #[.string F.want.copy, .int .i64 F.want.version, .string F.want.hold, .int .i64 F.want.pull, .int .i64 F.want.start, .int .i64 F.want.dies, .int .i64 F.want.grace, .int .i64 F.state, .int .i64 F.left, .int .i64 F.falls, .int .i64 F.until_] 37 (wczbad.setCells ga 0 [.string F.want.copy, .int .i64 F.want.version, .string F.want.hold, .int .i64 F.want.pull, .int .i64 F.want.start, .int .i64 F.want.dies, .int .i64 F.want.grace, .int .i64 F.state, .int .i64 F.left, .int .i64 F.falls, .int .i64 F.until_])) := HGczbad.out.setAll #[.string F.want.copy, .int .i64 F.want.version, .string F.want.hold, .int .i64 F.want.pull, .int .i64 F.want.start, .int .i64 F.want.dies, .int .i64 F.want.grace, .int .i64 F.state, .int .i64 F.left, .int .i64 F.falls, .int .i64 F.until_] rfl
            have hbs : Below ga wczbad (wczbad.setCells ga 0 [.string F.want.copy, .int .i64 F.want.version, .string F.want.hold, .int .i64 F.want.pull, .int .i64 F.want.start, .int .i64 F.want.dies, .int .i64 F.want.grace, .int .i64 F.state, .int .i64 F.left, .int .i64 F.falls, .int .i64 F.until_]) := below_setCells (Nat.le_refl _) _ _ _ (Below.refl _ _)
            have hBf := hBczbad.trans (hbs.mono (by omega))
            have HOf : Hid (Blk g0 #[.string F0.want.copy, .int .i64 F0.want.version, .string F0.want.hold, .int .i64 F0.want.pull, .int .i64 F0.want.start, .int .i64 F0.want.dies, .int .i64 F0.want.grace, .int .i64 F0.state, .int .i64 F0.left, .int .i64 F0.falls, .int .i64 F0.until_] 37 (wczbad.setCells ga 0 [.string F.want.copy, .int .i64 F.want.version, .string F.want.hold, .int .i64 F.want.pull, .int .i64 F.want.start, .int .i64 F.want.dies, .int .i64 F.want.grace, .int .i64 F.state, .int .i64 F.left, .int .i64 F.falls, .int .i64 F.until_])) := blk_setCells_other (by omega) _ _ _ HOczbad.out
            refine hK.out _ _ ⟨hS.1.below hbs (by omega), hS.2.below hbs (by omega)⟩ (fun hS => ?_)
            clear hK K hbs
            generalize wczbad.setCells ga 0 [.string F.want.copy, .int .i64 F.want.version, .string F.want.hold, .int .i64 F.want.pull, .int .i64 F.want.start, .int .i64 F.want.dies, .int .i64 F.want.grace, .int .i64 F.state, .int .i64 F.left, .int .i64 F.falls, .int .i64 F.until_] = wf at *
            refine wpAnyH_take (i := 12) (oi := { dst := some 13, op := _, type := _, pos := _, after := _, guard := none }) (v := .bool k) rfl (by kernel_rfl) (by kernel_rfl) (by kernel_rfl) (fun _ _ _ h => h) (Or.inl ⟨by rfl, ?_⟩) hS ?_
            · intro wy hy
              clear hy
              go_simp
            simp only [Act.put, List.setIfInBounds_toArray, List.set_cons_zero, List.set_cons_succ]
            refine wpAnyH_done (by kernel_rfl) ?_ _
            clear hS
            go_wp2_with fail
            go_meet
            exact ⟨ga, F, k, rfl, rfl, hFk.trans (live_eq x _ c), HGf, HOf, hBf⟩
        · go_simp
          have HGzad := Hid.intro (Blk.alloc wad #[.string ⟨#[]⟩, .int .i64 0, .string ⟨#[]⟩, .int .i64 0, .int .i64 0, .int .i64 0, .int .i64 0, .int .i64 0, .int .i64 0, .int .i64 0, .int .i64 0] 37)
          have hba : Below wad.heap.size wad (wad.alloc (Obj.cells #[.string ⟨#[]⟩, .int .i64 0, .string ⟨#[]⟩, .int .i64 0, .int .i64 0, .int .i64 0, .int .i64 0, .int .i64 0, .int .i64 0, .int .i64 0, .int .i64 0] 37)) := (Below.refl _ _).alloc (Nat.le_refl _) _
          have hBzad := hBad.trans (hba.mono hBad.size)
          have hga : w.heap.size + 1 < wad.heap.size := hS.2.lt
          have HOzad := Hid.intro (HOad.out.below hba HOad.out.lt)
          have hgHO := HOad.out.lt
          refine hK.out _ _ ⟨hS.1.below hba hS.1.lt, hS.2.below hba hS.2.lt⟩ (fun hS => ?_)
          clear hK K hba
          generalize wad.alloc (Obj.cells #[.string ⟨#[]⟩, .int .i64 0, .string ⟨#[]⟩, .int .i64 0, .int .i64 0, .int .i64 0, .int .i64 0, .int .i64 0, .int .i64 0, .int .i64 0, .int .i64 0] 37) = wzad at *
          generalize wad.heap.size = ga at *
          refine wpAnyH_ready (rs := [3]) (by kernel_rfl) (by simp) (AllReadyH.cons (o := { dst := some 38, op := _, type := _, pos := _, after := _, guard := none }) rfl (fun K hK => ?_) AllReadyH.nil)
          go_simp
          refine (toWnt_any y _).mono ?_
          rintro e wbzad ⟨rfl, hb⟩
          have hBbzad := hBzad.trans (hb.mono hBzad.size)
          have HObzad := Hid.intro (HOzad.out.below hb HOzad.out.lt)
          have HGbzad := Hid.intro (HGzad.out.below hb HGzad.out.lt)
          refine hK.out _ _ ⟨hS.1.below hb hS.1.lt, hS.2.below hb hS.2.lt⟩ (fun hS => ?_)
          clear hK K hb
          refine wpAnyH_ready (rs := [6]) (by kernel_rfl) (by simp) (AllReadyH.cons (o := { dst := some 41, op := _, type := _, pos := _, after := _, guard := none }) rfl (fun K hK => ?_) AllReadyH.nil)
          go_simp
          refine (implLive_any x y wanted c _ HS0.out HS2.out).mono ?_
          rintro e wcbzad ⟨F, k, hFk, rfl, hb⟩
          have hBcbzad := hBbzad.trans (hb.mono hBbzad.size)
          have HOcbzad := Hid.intro (HObzad.out.below hb HObzad.out.lt)
          have HGcbzad := Hid.intro (HGbzad.out.below hb HGbzad.out.lt)
          refine hK.out _ _ ⟨hS.1.below hb hS.1.lt, hS.2.below hb hS.2.lt⟩ (fun hS => ?_)
          clear hK K hb
          refine wpAnyH_take (i := 7) (oi := { dst := some 34, op := _, type := _, pos := _, after := _, guard := none }) (v := .tuple #[.agg #[.string F.want.copy, .int .i64 F.want.version, .string F.want.hold, .int .i64 F.want.pull, .int .i64 F.want.start, .int .i64 F.want.dies, .int .i64 F.want.grace, .int .i64 F.state, .int .i64 F.left, .int .i64 F.falls, .int .i64 F.until_], .bool k]) rfl (by kernel_rfl) (by kernel_rfl) (by kernel_rfl) (fun _ _ _ h => h) (Or.inl ⟨by rfl, ?_⟩) hS ?_
          · intro wy hy
            clear hy
            go_simp
          simp only [Act.put, List.setIfInBounds_toArray, List.set_cons_zero, List.set_cons_succ]
          refine wpAnyH_take (i := 8) (oi := { dst := some 42, op := _, type := _, pos := _, after := _, guard := none }) (v := .agg #[.string F.want.copy, .int .i64 F.want.version, .string F.want.hold, .int .i64 F.want.pull, .int .i64 F.want.start, .int .i64 F.want.dies, .int .i64 F.want.grace, .int .i64 F.state, .int .i64 F.left, .int .i64 F.falls, .int .i64 F.until_]) rfl (by kernel_rfl) (by kernel_rfl) (by kernel_rfl) (fun _ _ _ h => h) (Or.inl ⟨by rfl, ?_⟩) hS ?_
          · intro wy hy
            clear hy
            go_simp
          simp only [Act.put, List.setIfInBounds_toArray, List.set_cons_zero, List.set_cons_succ]
          refine wpAnyH_take (i := 9) (oi := { dst := some 43, op := _, type := _, pos := _, after := _, guard := none }) (v := .bool k) rfl (by kernel_rfl) (by kernel_rfl) (by kernel_rfl) (fun _ _ _ h => h) (Or.inl ⟨by rfl, ?_⟩) hS ?_
          · intro wy hy
            clear hy
            go_simp
          simp only [Act.put, List.setIfInBounds_toArray, List.set_cons_zero, List.set_cons_succ]
          refine wpAnyH_ready (rs := [11]) (by kernel_rfl) (by simp) (AllReadyH.cons (o := { dst := none, op := _, type := _, pos := _, after := _, guard := none }) rfl (fun K hK => ?_) AllReadyH.nil)
          rw [if_pos (by rfl)]
          refine wp_store_mid 37 (.tmp 12) (.tmp 42) (by rfl) ga 0 #[.string F.want.copy, .int .i64 F.want.version, .string F.want.hold, .int .i64 F.want.pull, .int .i64 F.want.start, .int .i64 F.want.dies, .int .i64 F.want.grace, .int .i64 F.state, .int .i64 F.left, .int .i64 F.falls, .int .i64 F.until_] (by rfl) (by rfl) HGcbzad.out.there isz_Rn (by simp [Value.oneCell']) ?_
          have HGf : Hid (Blk ga #[.string F.want.copy, .int .i64 F.want.version, .string F.want.hold, .int .i64 F.want.pull, .int .i64 F.want.start, .int .i64 F.want.dies, .int .i64 F.want.grace, .int .i64 F.state, .int .i64 F.left, .int .i64 F.falls, .int .i64 F.until_] 37 (wcbzad.setCells ga 0 [.string F.want.copy, .int .i64 F.want.version, .string F.want.hold, .int .i64 F.want.pull, .int .i64 F.want.start, .int .i64 F.want.dies, .int .i64 F.want.grace, .int .i64 F.state, .int .i64 F.left, .int .i64 F.falls, .int .i64 F.until_])) := HGcbzad.out.setAll #[.string F.want.copy, .int .i64 F.want.version, .string F.want.hold, .int .i64 F.want.pull, .int .i64 F.want.start, .int .i64 F.want.dies, .int .i64 F.want.grace, .int .i64 F.state, .int .i64 F.left, .int .i64 F.falls, .int .i64 F.until_] rfl
          have hbs : Below ga wcbzad (wcbzad.setCells ga 0 [.string F.want.copy, .int .i64 F.want.version, .string F.want.hold, .int .i64 F.want.pull, .int .i64 F.want.start, .int .i64 F.want.dies, .int .i64 F.want.grace, .int .i64 F.state, .int .i64 F.left, .int .i64 F.falls, .int .i64 F.until_]) := below_setCells (Nat.le_refl _) _ _ _ (Below.refl _ _)
          have hBf := hBcbzad.trans (hbs.mono (by omega))
          have HOf : Hid (Blk g0 #[.string F0.want.copy, .int .i64 F0.want.version, .string F0.want.hold, .int .i64 F0.want.pull, .int .i64 F0.want.start, .int .i64 F0.want.dies, .int .i64 F0.want.grace, .int .i64 F0.state, .int .i64 F0.left, .int .i64 F0.falls, .int .i64 F0.until_] 37 (wcbzad.setCells ga 0 [.string F.want.copy, .int .i64 F.want.version, .string F.want.hold, .int .i64 F.want.pull, .int .i64 F.want.start, .int .i64 F.want.dies, .int .i64 F.want.grace, .int .i64 F.state, .int .i64 F.left, .int .i64 F.falls, .int .i64 F.until_])) := blk_setCells_other (by omega) _ _ _ HOcbzad.out
          refine hK.out _ _ ⟨hS.1.below hbs (by omega), hS.2.below hbs (by omega)⟩ (fun hS => ?_)
          clear hK K hbs
          generalize wcbzad.setCells ga 0 [.string F.want.copy, .int .i64 F.want.version, .string F.want.hold, .int .i64 F.want.pull, .int .i64 F.want.start, .int .i64 F.want.dies, .int .i64 F.want.grace, .int .i64 F.state, .int .i64 F.left, .int .i64 F.falls, .int .i64 F.until_] = wf at *
          refine wpAnyH_take (i := 12) (oi := { dst := some 13, op := _, type := _, pos := _, after := _, guard := none }) (v := .bool k) rfl (by kernel_rfl) (by kernel_rfl) (by kernel_rfl) (fun _ _ _ h => h) (Or.inl ⟨by rfl, ?_⟩) hS ?_
          · intro wy hy
            clear hy
            go_simp
          simp only [Act.put, List.setIfInBounds_toArray, List.set_cons_zero, List.set_cons_succ]
          refine wpAnyH_done (by kernel_rfl) ?_ _
          clear hS
          go_wp2_with fail
          go_meet
          exact ⟨ga, F, k, rfl, rfl, hFk.trans (live_eq x _ c), HGf, HOf, hBf⟩
      · go_simp
        have HGzd := Hid.intro (Blk.alloc wd #[.string ⟨#[]⟩, .int .i64 0, .string ⟨#[]⟩, .int .i64 0, .int .i64 0, .int .i64 0, .int .i64 0, .int .i64 0, .int .i64 0, .int .i64 0, .int .i64 0] 37)
        have hba : Below wd.heap.size wd (wd.alloc (Obj.cells #[.string ⟨#[]⟩, .int .i64 0, .string ⟨#[]⟩, .int .i64 0, .int .i64 0, .int .i64 0, .int .i64 0, .int .i64 0, .int .i64 0, .int .i64 0, .int .i64 0] 37)) := (Below.refl _ _).alloc (Nat.le_refl _) _
        have hBzd := hBd.trans (hba.mono hBd.size)
        have hga : w.heap.size + 1 < wd.heap.size := hS.2.lt
        have HOzd := Hid.intro (HOd.out.below hba HOd.out.lt)
        have hgHO := HOd.out.lt
        refine hK.out _ _ ⟨hS.1.below hba hS.1.lt, hS.2.below hba hS.2.lt⟩ (fun hS => ?_)
        clear hK K hba
        generalize wd.alloc (Obj.cells #[.string ⟨#[]⟩, .int .i64 0, .string ⟨#[]⟩, .int .i64 0, .int .i64 0, .int .i64 0, .int .i64 0, .int .i64 0, .int .i64 0, .int .i64 0, .int .i64 0] 37) = wzd at *
        generalize wd.heap.size = ga at *
        refine wpAnyH_ready (rs := [1]) (by kernel_rfl) (by simp) (AllReadyH.cons (o := { dst := some 36, op := _, type := _, pos := _, after := _, guard := none }) rfl (fun K hK => ?_) AllReadyH.nil)
        go_simp
        refine (toRn_any x _).mono ?_
        rintro e wazd ⟨rfl, hb⟩
        have hBazd := hBzd.trans (hb.mono hBzd.size)
        have HOazd := Hid.intro (HOzd.out.below hb HOzd.out.lt)
        have HGazd := Hid.intro (HGzd.out.below hb HGzd.out.lt)
        refine hK.out _ _ ⟨hS.1.below hb hS.1.lt, hS.2.below hb hS.2.lt⟩ (fun hS => ?_)
        clear hK K hb
        refine wpAnyH_ready (rs := [3]) (by kernel_rfl) (by simp) (AllReadyH.cons (o := { dst := some 38, op := _, type := _, pos := _, after := _, guard := none }) rfl (fun K hK => ?_) AllReadyH.nil)
        go_simp
        refine (toWnt_any y _).mono ?_
        rintro e wbazd ⟨rfl, hb⟩
        have hBbazd := hBazd.trans (hb.mono hBazd.size)
        have HObazd := Hid.intro (HOazd.out.below hb HOazd.out.lt)
        have HGbazd := Hid.intro (HGazd.out.below hb HGazd.out.lt)
        refine hK.out _ _ ⟨hS.1.below hb hS.1.lt, hS.2.below hb hS.2.lt⟩ (fun hS => ?_)
        clear hK K hb
        refine wpAnyH_ready (rs := [6]) (by kernel_rfl) (by simp) (AllReadyH.cons (o := { dst := some 41, op := _, type := _, pos := _, after := _, guard := none }) rfl (fun K hK => ?_) AllReadyH.nil)
        go_simp
        refine (implLive_any x y wanted c _ HS0.out HS2.out).mono ?_
        rintro e wcbazd ⟨F, k, hFk, rfl, hb⟩
        have hBcbazd := hBbazd.trans (hb.mono hBbazd.size)
        have HOcbazd := Hid.intro (HObazd.out.below hb HObazd.out.lt)
        have HGcbazd := Hid.intro (HGbazd.out.below hb HGbazd.out.lt)
        refine hK.out _ _ ⟨hS.1.below hb hS.1.lt, hS.2.below hb hS.2.lt⟩ (fun hS => ?_)
        clear hK K hb
        refine wpAnyH_take (i := 7) (oi := { dst := some 34, op := _, type := _, pos := _, after := _, guard := none }) (v := .tuple #[.agg #[.string F.want.copy, .int .i64 F.want.version, .string F.want.hold, .int .i64 F.want.pull, .int .i64 F.want.start, .int .i64 F.want.dies, .int .i64 F.want.grace, .int .i64 F.state, .int .i64 F.left, .int .i64 F.falls, .int .i64 F.until_], .bool k]) rfl (by kernel_rfl) (by kernel_rfl) (by kernel_rfl) (fun _ _ _ h => h) (Or.inl ⟨by rfl, ?_⟩) hS ?_
        · intro wy hy
          clear hy
          go_simp
        simp only [Act.put, List.setIfInBounds_toArray, List.set_cons_zero, List.set_cons_succ]
        refine wpAnyH_take (i := 8) (oi := { dst := some 42, op := _, type := _, pos := _, after := _, guard := none }) (v := .agg #[.string F.want.copy, .int .i64 F.want.version, .string F.want.hold, .int .i64 F.want.pull, .int .i64 F.want.start, .int .i64 F.want.dies, .int .i64 F.want.grace, .int .i64 F.state, .int .i64 F.left, .int .i64 F.falls, .int .i64 F.until_]) rfl (by kernel_rfl) (by kernel_rfl) (by kernel_rfl) (fun _ _ _ h => h) (Or.inl ⟨by rfl, ?_⟩) hS ?_
        · intro wy hy
          clear hy
          go_simp
        simp only [Act.put, List.setIfInBounds_toArray, List.set_cons_zero, List.set_cons_succ]
        refine wpAnyH_take (i := 9) (oi := { dst := some 43, op := _, type := _, pos := _, after := _, guard := none }) (v := .bool k) rfl (by kernel_rfl) (by kernel_rfl) (by kernel_rfl) (fun _ _ _ h => h) (Or.inl ⟨by rfl, ?_⟩) hS ?_
        · intro wy hy
          clear hy
          go_simp
        simp only [Act.put, List.setIfInBounds_toArray, List.set_cons_zero, List.set_cons_succ]
        refine wpAnyH_ready (rs := [11]) (by kernel_rfl) (by simp) (AllReadyH.cons (o := { dst := none, op := _, type := _, pos := _, after := _, guard := none }) rfl (fun K hK => ?_) AllReadyH.nil)
        rw [if_pos (by rfl)]
        refine wp_store_mid 37 (.tmp 12) (.tmp 42) (by rfl) ga 0 #[.string F.want.copy, .int .i64 F.want.version, .string F.want.hold, .int .i64 F.want.pull, .int .i64 F.want.start, .int .i64 F.want.dies, .int .i64 F.want.grace, .int .i64 F.state, .int .i64 F.left, .int .i64 F.falls, .int .i64 F.until_] (by rfl) (by rfl) HGcbazd.out.there isz_Rn (by simp [Value.oneCell']) ?_
        have HGf : Hid (Blk ga #[.string F.want.copy, .int .i64 F.want.version, .string F.want.hold, .int .i64 F.want.pull, .int .i64 F.want.start, .int .i64 F.want.dies, .int .i64 F.want.grace, .int .i64 F.state, .int .i64 F.left, .int .i64 F.falls, .int .i64 F.until_] 37 (wcbazd.setCells ga 0 [.string F.want.copy, .int .i64 F.want.version, .string F.want.hold, .int .i64 F.want.pull, .int .i64 F.want.start, .int .i64 F.want.dies, .int .i64 F.want.grace, .int .i64 F.state, .int .i64 F.left, .int .i64 F.falls, .int .i64 F.until_])) := HGcbazd.out.setAll #[.string F.want.copy, .int .i64 F.want.version, .string F.want.hold, .int .i64 F.want.pull, .int .i64 F.want.start, .int .i64 F.want.dies, .int .i64 F.want.grace, .int .i64 F.state, .int .i64 F.left, .int .i64 F.falls, .int .i64 F.until_] rfl
        have hbs : Below ga wcbazd (wcbazd.setCells ga 0 [.string F.want.copy, .int .i64 F.want.version, .string F.want.hold, .int .i64 F.want.pull, .int .i64 F.want.start, .int .i64 F.want.dies, .int .i64 F.want.grace, .int .i64 F.state, .int .i64 F.left, .int .i64 F.falls, .int .i64 F.until_]) := below_setCells (Nat.le_refl _) _ _ _ (Below.refl _ _)
        have hBf := hBcbazd.trans (hbs.mono (by omega))
        have HOf : Hid (Blk g0 #[.string F0.want.copy, .int .i64 F0.want.version, .string F0.want.hold, .int .i64 F0.want.pull, .int .i64 F0.want.start, .int .i64 F0.want.dies, .int .i64 F0.want.grace, .int .i64 F0.state, .int .i64 F0.left, .int .i64 F0.falls, .int .i64 F0.until_] 37 (wcbazd.setCells ga 0 [.string F.want.copy, .int .i64 F.want.version, .string F.want.hold, .int .i64 F.want.pull, .int .i64 F.want.start, .int .i64 F.want.dies, .int .i64 F.want.grace, .int .i64 F.state, .int .i64 F.left, .int .i64 F.falls, .int .i64 F.until_])) := blk_setCells_other (by omega) _ _ _ HOcbazd.out
        refine hK.out _ _ ⟨hS.1.below hbs (by omega), hS.2.below hbs (by omega)⟩ (fun hS => ?_)
        clear hK K hbs
        generalize wcbazd.setCells ga 0 [.string F.want.copy, .int .i64 F.want.version, .string F.want.hold, .int .i64 F.want.pull, .int .i64 F.want.start, .int .i64 F.want.dies, .int .i64 F.want.grace, .int .i64 F.state, .int .i64 F.left, .int .i64 F.falls, .int .i64 F.until_] = wf at *
        refine wpAnyH_take (i := 12) (oi := { dst := some 13, op := _, type := _, pos := _, after := _, guard := none }) (v := .bool k) rfl (by kernel_rfl) (by kernel_rfl) (by kernel_rfl) (fun _ _ _ h => h) (Or.inl ⟨by rfl, ?_⟩) hS ?_
        · intro wy hy
          clear hy
          go_simp
        simp only [Act.put, List.setIfInBounds_toArray, List.set_cons_zero, List.set_cons_succ]
        refine wpAnyH_done (by kernel_rfl) ?_ _
        clear hS
        go_wp2_with fail
        go_meet
        exact ⟨ga, F, k, rfl, rfl, hFk.trans (live_eq x _ c), HGf, HOf, hBf⟩
    case rest =>
      obtain ⟨g1, F1, k1, rfl, rfl, HF1, HP, HO, hBz⟩ := hcut
      have heq : (F1, k1) = (F0, k0) := HF1.out.trans HF0.out.symm
      obtain ⟨rfl, rfl⟩ := Prod.mk.inj heq
      clear heq HF1 HF0 HXi HYi hBi
      go_wp2_with (first | (refine wpList_load_mid rfl 37 _ rfl g1 0 rfl [.string F1.want.copy, .int .i64 F1.want.version, .string F1.want.hold, .int .i64 F1.want.pull, .int .i64 F1.want.start, .int .i64 F1.want.dies, .int .i64 F1.want.grace, .int .i64 F1.state, .int .i64 F1.left, .int .i64 F1.falls, .int .i64 F1.until_] _ HP.out.rangeA Try.underlying37 rfl isz_Rn ?_) | (refine wpList_load_mid rfl 37 _ rfl g0 0 rfl [.string F1.want.copy, .int .i64 F1.want.version, .string F1.want.hold, .int .i64 F1.want.pull, .int .i64 F1.want.start, .int .i64 F1.want.dies, .int .i64 F1.want.grace, .int .i64 F1.state, .int .i64 F1.left, .int .i64 F1.falls, .int .i64 F1.until_] _ HO.out.rangeA Try.underlying37 rfl isz_Rn ?_))
      refine (eqRn_any F1 _).mono ?_
      rintro e we ⟨rfl, hbe⟩
      have hBe := hBz.trans (hbe.mono hBz.size)
      clear hbe hBz
      go_wp2_with fail
      go_ret
      exact ⟨rfl, hBe⟩

end Go.Proofs.Ytlhcadpelcegaaa
