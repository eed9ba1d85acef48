import Derived.Test.YtlangcodelcncaaGreatAv3
namespace Go.Proofs.YtlangcodelcncaaGreat
open Go.RowKit Go.WideMaps Go.Maps

def elRn (v : Value) : Option (DataW Unit × List MemPlace) := match v with
  | .agg cs => match cs.toList with
    | [.string c0, .int .i64 c1, .string c2, .int .i64 c3, .int .i64 c4, .int .i64 c5, .int .i64 c6, .int .i64 c7, .int .i64 c8, .int .i64 c9, .int .i64 c10] => some (.agg [.lit (.string c0.data.toList), .lit (.int .i64 c1), .lit (.string c2.data.toList), .lit (.int .i64 c3), .lit (.int .i64 c4), .lit (.int .i64 c5), .lit (.int .i64 c6), .lit (.int .i64 c7), .lit (.int .i64 c8), .lit (.int .i64 c9), .lit (.int .i64 c10)], [])
    | _ => none
  | _ => none

def dtRn (x : Rn) : DataW Unit := .agg [.lit (.string x.want.copy.data.toList), .lit (.int .i64 x.want.version), .lit (.string x.want.hold.data.toList), .lit (.int .i64 x.want.pull), .lit (.int .i64 x.want.start), .lit (.int .i64 x.want.dies), .lit (.int .i64 x.want.grace), .lit (.int .i64 x.state), .lit (.int .i64 x.left), .lit (.int .i64 x.falls), .lit (.int .i64 x.until_)]

theorem elRn_mk (x : Rn) : elRn (.agg #[.string x.want.copy, .int .i64 x.want.version, .string x.want.hold, .int .i64 x.want.pull, .int .i64 x.want.start, .int .i64 x.want.dies, .int .i64 x.want.grace, .int .i64 x.state, .int .i64 x.left, .int .i64 x.falls, .int .i64 x.until_]) = some (dtRn x, []) := rfl

theorem elRn_inv {v : Value} {z : DataW Unit × List MemPlace} (h : elRn v = some z) : ∃ x : Rn, v = .agg #[.string x.want.copy, .int .i64 x.want.version, .string x.want.hold, .int .i64 x.want.pull, .int .i64 x.want.start, .int .i64 x.want.dies, .int .i64 x.want.grace, .int .i64 x.state, .int .i64 x.left, .int .i64 x.falls, .int .i64 x.until_] ∧ z = (dtRn x, []) := by
  cases v with
  | agg cs =>
    obtain ⟨l⟩ := cs
    match l, h with
    | [.string c0, .int .i64 c1, .string c2, .int .i64 c3, .int .i64 c4, .int .i64 c5, .int .i64 c6, .int .i64 c7, .int .i64 c8, .int .i64 c9, .int .i64 c10], e => exact ⟨⟨⟨c0, c1, c2, c3, c4, c5, c6⟩, c7, c8, c9, c10⟩, rfl, (Option.some.inj e).symm⟩
  | _ => cases h

theorem dtRn_inj {x y : Rn} (h : dtRn x = dtRn y) : x = y := by
  unfold dtRn at h
  injection h with h
  injection h with h0 h
  injection h with h1 h
  injection h with h2 h
  injection h with h3 h
  injection h with h4 h
  injection h with h5 h
  injection h with h6 h
  injection h with h7 h
  injection h with h8 h
  injection h with h9 h
  injection h with h10 _
  injection h0 with h0
  injection h0 with h0
  injection h1 with h1
  injection h1 with _ h1
  injection h2 with h2
  injection h2 with h2
  injection h3 with h3
  injection h3 with _ h3
  injection h4 with h4
  injection h4 with _ h4
  injection h5 with h5
  injection h5 with _ h5
  injection h6 with h6
  injection h6 with _ h6
  injection h7 with h7
  injection h7 with _ h7
  injection h8 with h8
  injection h8 with _ h8
  injection h9 with h9
  injection h9 with _ h9
  injection h10 with h10
  injection h10 with _ h10
  obtain ⟨⟨a0, a1, a2, a3, a4, a5, a6⟩, a7, a8, a9, a10⟩ := x
  obtain ⟨⟨b0, b1, b2, b3, b4, b5, b6⟩, b7, b8, b9, b10⟩ := y
  simp only at h0 h1 h2 h3 h4 h5 h6 h7 h8 h9 h10
  rw [ba_inj h0, h1, ba_inj h2, h3, h4, h5, h6, h7, h8, h9, h10]

def tmRn : List Rn → DataW Unit
  | [] => .map []
  | a :: r => (tmRn r).put (kOf a.want.copy) (dtRn a)

theorem tmRn_isMap : ∀ r, IsMap (tmRn r)
  | [] => ⟨_, rfl⟩
  | _ :: r => IsMap.put (tmRn_isMap r) _ _

theorem has_tmRn (s : ByteArray) : ∀ r, has (tmRn r) (kOf s) = r.any (fun a => decide (a.want.copy = s))
  | [] => rfl
  | a :: r => by
    by_cases e : a.want.copy = s
    · unfold tmRn
      rw [← e]
      simp
      exact has_put_same (tmRn_isMap r) (show WideAt.IsKeyLit (kOf _) from trivial) _
    · unfold tmRn
      rw [has_put_other (fun h => e (kOf_inj h).symm), has_tmRn s r]
      simp [e]

theorem at_tmRn (s : ByteArray) (d : DataW Unit) : ∀ r, (tmRn r).atKey (kOf s) d = match r.find? (fun a => decide (a.want.copy = s)) with
    | some a => dtRn a
    | none => d
  | [] => rfl
  | a :: r => by
    by_cases e : a.want.copy = s
    · unfold tmRn
      simp only [List.find?_cons, e, decide_true]
      exact atKey_put_same (tmRn_isMap r) (show WideAt.IsKeyLit (kOf _) from trivial) _ _
    · unfold tmRn
      rw [atKey_put_other (fun h => e (kOf_inj h).symm), at_tmRn s d r]
      simp [e]

set_option maxHeartbeats 4000000 in
set_option maxRecDepth 100000 in
theorem byNRn_any (xs : List Rn) (a : Option Addr) (cap lo : Nat) (w : World) (hin : SliceC RnC 11 lo w a xs) (hsm : xs.length ≤ 1048576) :
    Calls Tryz.prog 73 #[.slice a xs.length cap, .func (.func 74) #[] #[]] w fun e w' => ∃ m n : Nat, e = .returned (.map (some m)) ∧ w.heap.size ≤ m ∧ n ≤ xs.length ∧ w'.ownsMap Tryz.prog 9 elRn m n (tmRn xs.reverse) ∧ Below w.heap.size w w' := by
  have hmm : ∀ q n w, (Instr.makeMap 107 (some (.int q n))).run Tryz.prog w = .ok (.map (some w.heap.size)) (w.alloc (.map #[] 0)) := fun q n w => run_makeMapHint Tryz.underlying107 q n w
  have HI : Hid (SliceC RnC 11 lo w a xs) := hin
  clear hin
  go_enter Tryz.func73, Tryz.ntmps73
  go_wp2_with fail
  go_loopw [13] (fun i wr => ∃ k n : Nat, k ≤ xs.length ∧ i = .int .i64 k ∧ Hid (n ≤ k) ∧ Hid (wr.ownsMap Tryz.prog 9 elRn w.heap.size n (tmRn (xs.take k).reverse)) ∧ Below w.heap.size w wr) (fun i _ => xs.length - (intOf i).toNat)
  case atStart => exact ⟨0, 0, Nat.zero_le _, rfl, Nat.le_refl _, World.ownsMap_made _ _ _ _, (Below.refl _ _).alloc (Nat.le_refl _) _⟩
  case round =>
    clear hmm
    obtain ⟨k, n, hk, rfl, hn, HO, hB⟩ := hrel
    by_cases hlt : k < xs.length
    case neg =>
      have hke : k = xs.length := by omega
      subst hke
      have HOE : Hid (wr.ownsMap Tryz.prog 9 elRn w.heap.size n (tmRn xs.reverse)) := by show World.ownsMap _ _ _ _ _ _ _; have := HO.out; rw [List.take_length] at this; exact this
      go_wp2_with fail
      go_ret
      exact ⟨w.heap.size, n, rfl, Nat.le_refl _, hn.out, HOE.out, hB⟩
    obtain ⟨x, hx⟩ : ∃ x, xs[k]? = some x := ⟨xs[k], List.getElem?_eq_getElem hlt⟩
    obtain ⟨b, o, rfl, _, hbl, hc⟩ := (HI.out.below RnC.holds hB (Nat.le_refl _)).at hx
    have HRA := Hid.intro (range_of_cells hc)
    obtain ⟨_, _, _, _, _, _, _, _, _, _, _, z0, z2⟩ := hc
    have hkm : keyOf Tryz.prog 9 (.string x.want.copy) = some (kOf x.want.copy) := keyOf_string_mk Tryz.underlying9 z0
    have HXX := Hid.intro hx
    clear z0 z2 hx
    have hn2 := hn.out
    have HK4 : Hid (Blk wr.heap.size #[.string x.want.copy, .int .i64 x.want.version, .string x.want.hold, .int .i64 x.want.pull, .int .i64 x.want.start, .int .i64 x.want.dies, .int .i64 x.want.grace, .int .i64 x.state, .int .i64 x.left, .int .i64 x.falls, .int .i64 x.until_] 65 (wr.alloc (Obj.cells #[.string x.want.copy, .int .i64 x.want.version, .string x.want.hold, .int .i64 x.want.pull, .int .i64 x.want.start, .int .i64 x.want.dies, .int .i64 x.want.grace, .int .i64 x.state, .int .i64 x.left, .int .i64 x.falls, .int .i64 x.until_] 65))) := Blk.alloc _ _ _
    have HO4 := Hid.intro (HO.out.alloc (Obj.cells #[.string x.want.copy, .int .i64 x.want.version, .string x.want.hold, .int .i64 x.want.pull, .int .i64 x.want.start, .int .i64 x.want.dies, .int .i64 x.want.grace, .int .i64 x.state, .int .i64 x.left, .int .i64 x.falls, .int .i64 x.until_] 65))
    have hB4 : Below w.heap.size w (wr.alloc (Obj.cells #[.string x.want.copy, .int .i64 x.want.version, .string x.want.hold, .int .i64 x.want.pull, .int .i64 x.want.start, .int .i64 x.want.dies, .int .i64 x.want.grace, .int .i64 x.state, .int .i64 x.left, .int .i64 x.falls, .int .i64 x.until_] 65)) := hB.trans (((Below.refl wr.heap.size wr).alloc (Nat.le_refl _) _).mono hB.size)
    have hmg : w.heap.size < wr.heap.size := HO.out.lt
    clear HO hB
    go_upto_region 5 with (refine wpList_load_mid rfl 65 _ rfl b (o + k * 11) (by first | rfl | (simp [go_sem]; done)) [.string x.want.copy, .int .i64 x.want.version, .string x.want.hold, .int .i64 x.want.pull, .int .i64 x.want.start, .int .i64 x.want.dies, .int .i64 x.want.grace, .int .i64 x.state, .int .i64 x.left, .int .i64 x.falls, .int .i64 x.until_] _ HRA.out Tryz.underlying65 rfl isz_Rn ?_)
    clear HRA
    generalize wr.alloc (Obj.cells #[.string x.want.copy, .int .i64 x.want.version, .string x.want.hold, .int .i64 x.want.pull, .int .i64 x.want.start, .int .i64 x.want.dies, .int .i64 x.want.grace, .int .i64 x.state, .int .i64 x.left, .int .i64 x.falls, .int .i64 x.until_] 65) = w4 at *
    generalize wr.heap.size = g at *
    refine wp_region_held_drew (S := fun wy => Blk g #[.string x.want.copy, .int .i64 x.want.version, .string x.want.hold, .int .i64 x.want.pull, .int .i64 x.want.start, .int .i64 x.want.dies, .int .i64 x.want.grace, .int .i64 x.state, .int .i64 x.left, .int .i64 x.falls, .int .i64 x.until_] 65 wy) (by kernel_rfl) HK4.out.drew (fun hS => ?_)
    have hBd : Below w.heap.size w w4.drew := hB4.trans ((Below.refl w.heap.size w4).drew)
    have HOd := Hid.intro HO4.out.drew
    generalize w4.drew = wd at *
    refine wpAnyH_take (i := 0) (oi := ⟨some 17, _, _, _, _, none⟩) (v := .map (some w.heap.size)) rfl (by kernel_rfl) (by kernel_rfl) (by kernel_rfl) (fun _ _ _ h => h) (Or.inl ⟨by rfl, ?_⟩) hS ?_
    · intro wy hy
      clear hy
      go_simp
    simp only [Act.put, List.setIfInBounds_toArray, List.set_cons_zero, List.set_cons_succ]
    refine wpAnyH_take (i := 1) (oi := ⟨some 18, _, _, _, _, none⟩) (v := .func (.func 74) #[] #[]) rfl (by kernel_rfl) (by kernel_rfl) (by kernel_rfl) (fun _ _ _ h => h) (Or.inl ⟨by rfl, ?_⟩) hS ?_
    · intro wy hy
      clear hy
      go_simp
    simp only [Act.put, List.setIfInBounds_toArray, List.set_cons_zero, List.set_cons_succ]
    refine wpAnyH_take (i := 2) (oi := ⟨some 19, _, _, _, _, none⟩) (v := .agg #[.string x.want.copy, .int .i64 x.want.version, .string x.want.hold, .int .i64 x.want.pull, .int .i64 x.want.start, .int .i64 x.want.dies, .int .i64 x.want.grace, .int .i64 x.state, .int .i64 x.left, .int .i64 x.falls, .int .i64 x.until_]) rfl (by kernel_rfl) (by kernel_rfl) (by kernel_rfl) (fun _ _ _ h => h) (yieldsIf_load_mid (by rfl) _ _ rfl g (0) rfl [.string x.want.copy, .int .i64 x.want.version, .string x.want.hold, .int .i64 x.want.pull, .int .i64 x.want.start, .int .i64 x.want.dies, .int .i64 x.want.grace, .int .i64 x.state, .int .i64 x.left, .int .i64 x.falls, .int .i64 x.until_] _ (fun _ h => h.rangeA) Tryz.underlying65 rfl isz_Rn) hS ?_
    simp only [Act.put, List.setIfInBounds_toArray, List.set_cons_zero, List.set_cons_succ]
    refine wpAnyH_take (i := 4) (oi := ⟨some 21, _, _, _, _, none⟩) (v := .agg #[.string x.want.copy, .int .i64 x.want.version, .string x.want.hold, .int .i64 x.want.pull, .int .i64 x.want.start, .int .i64 x.want.dies, .int .i64 x.want.grace, .int .i64 x.state, .int .i64 x.left, .int .i64 x.falls, .int .i64 x.until_]) rfl (by kernel_rfl) (by kernel_rfl) (by kernel_rfl) (fun _ _ _ h => h) (yieldsIf_load_mid (by rfl) _ _ rfl g (0) rfl [.string x.want.copy, .int .i64 x.want.version, .string x.want.hold, .int .i64 x.want.pull, .int .i64 x.want.start, .int .i64 x.want.dies, .int .i64 x.want.grace, .int .i64 x.state, .int .i64 x.left, .int .i64 x.falls, .int .i64 x.until_] _ (fun _ h => h.rangeA) Tryz.underlying65 rfl isz_Rn) hS ?_
    simp only [Act.put, List.setIfInBounds_toArray, List.set_cons_zero, List.set_cons_succ]
    refine wpAnyH_ready (rs := [3]) (by kernel_rfl) (by simp) (AllReadyH.cons (o := ⟨some 20, _, _, _, _, none⟩) rfl (fun K hK => ?_) AllReadyH.nil)
    go_simp
    refine (nameRn_any x _).mono ?_
    rintro e w5 ⟨rfl, hb5⟩
    have hB5 := hBd.trans (hb5.mono hBd.size)
    have HO5 := Hid.intro (ownsMap_below HOd.out hb5 HOd.out.lt)
    refine hK.out _ _ (hS.below hb5 hS.lt) (fun hS => ?_)
    clear hK K
    clear hb5 HOd HO4 hBd hB4
    obtain ⟨w6, yu, ho6, hg6⟩ := HO5.out.update law_str Tryz.underlying107 (by unfold maxLen; omega) hkm (elRn_mk x)
    have HG6 := Hid.intro hg6
    have hB6 : Below w.heap.size w w6 := hB5.grown hg6 hB5.size (fun j hj => by cases hj; exact Nat.le_refl _)
    have HO6 : Hid (w6.ownsMap Tryz.prog 9 elRn w.heap.size (n + 1) (tmRn (xs.take (k + 1)).reverse)) := by show World.ownsMap _ _ _ _ _ _ _; rw [take_rev HXX.out]; exact ho6
    clear ho6 hg6
    refine wpAnyH_ready (rs := [5]) (by kernel_rfl) (by simp) (AllReadyH.cons (o := ⟨none, _, _, _, _, none⟩) rfl (fun K hK => ?_) AllReadyH.nil)
    go_simp
    refine hK.out _ _ (hS.grown HG6.out (fun h => absurd (Option.some.inj h) (by show ¬ _ = _; omega))) (fun hS => ?_)
    clear hK K yu hkm HO5 hB5 HG6
    refine wpAnyH_done (by kernel_rfl) ?_ _
    clear hS
    go_wp2_with fail
    go_roundw
    case rel => exact ⟨k + 1, n + 1, by omega, by go_num, by show _ ≤ _; omega, HO6, hB6⟩
    case measure => simp [intOf]; omega

end Go.Proofs.YtlangcodelcncaaGreat
