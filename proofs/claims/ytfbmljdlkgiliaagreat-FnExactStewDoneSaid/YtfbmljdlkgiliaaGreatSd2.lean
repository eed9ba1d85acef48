/-
  Services of which something is so, and by how much copies are off what is wanted, by the program. Made by mksd1.py.
-/
import Derived.Test.YtfbmljdlkgiliaaGreatSd1
namespace Go.Proofs.YtfbmljdlkgiliaaGreat
open Go.RowKit

set_option maxHeartbeats 4000000 in
set_option maxRecDepth 100000 in
theorem indexF_any (f : Nat) (P : Ssv → Bool) (xs : List Ssv) (a : Option Addr) (cap lo : Nat) (w : World) (hin : SliceC SsvC 13 lo w a xs) (hsm : xs.length ≤ 1048576)
    (hf : ∀ x ∈ xs, ∀ v, Calls Tryz.prog f #[.agg #[.string x.name, .int .i64 x.version, .bool x.gone, .int .i64 x.image, .int .i64 x.want, .int .i64 x.down, .int .i64 x.over, .int .i64 x.next, .int .i64 x.per, .int .i64 x.least, .int .i64 x.most, .int .i64 x.load, .int .i64 x.cool]] v fun e w' => e = .returned (.bool (P x)) ∧ Below v.heap.size v w') (heg : ∀ args w, (callFunc f args).run Tryz.prog w = .ok (.enter f args) w) :
    Calls Tryz.prog 53 #[.slice a xs.length cap, .func (.func f) #[] #[]] w fun e w' => ∃ k : Int, e = .returned (.int .i64 k) ∧ ((0 ≤ k ∧ xs.any P = true) ∨ (k = -1 ∧ xs.any P = false)) ∧ Below w.heap.size w w' := by
  have HI := Hid.intro hin
  have HFF := Hid.intro hf
  clear hin hf
  go_enter Tryz.func53, Tryz.ntmps53
  go_wp2_with fail
  go_loopw [8] (fun i wr => ∃ k : Nat, k ≤ xs.length ∧ i = .int .i64 k ∧ Hid (∀ x ∈ xs.take k, P x = false) ∧ Below w.heap.size w wr) (fun i _ => xs.length - (intOf i).toNat)
  case atStart => exact ⟨0, Nat.zero_le _, rfl, fun x hx => by simp at hx, Below.refl _ _⟩
  case round =>
    obtain ⟨k, hk, rfl, HN, hB⟩ := hrel
    by_cases hlt : k < xs.length
    case neg =>
      have hke : k = xs.length := by omega
      subst hke
      have HA : Hid (xs.any P = false) := by
        have := HN.out
        rw [List.take_length] at this
        show _ = _
        rw [List.any_eq_false]
        intro x hx
        rw [this x hx]
        exact Bool.false_ne_true
      go_wp2_with fail
      go_ret
      exact ⟨-1, rfl, .inr ⟨rfl, HA.out⟩, hB⟩
    obtain ⟨x, hx⟩ : ∃ x, xs[k]? = some x := ⟨xs[k], List.getElem?_eq_getElem hlt⟩
    obtain ⟨b, ob, rfl, _, hbl, hc⟩ := (HI.out.below SsvC.holds hB (Nat.le_refl _)).at hx
    have HRA := Hid.intro (rngSsv hc)
    have HXM : Hid (x ∈ xs) := List.mem_of_getElem? hx
    have HNX : Hid (P x = false → ∀ y ∈ xs.take (k + 1), P y = false) := by
      intro hp y hy
      rw [List.take_add_one, hx] at hy
      simp at hy
      rcases hy with h | h
      · exact HN.out y h
      · rw [h]; exact hp
    clear hc hx HN
    go_wp2_with (refine wpList_load_mid rfl 46 _ rfl b (ob + k * 13) (by first | rfl | (simp [go_sem]; done)) [.string x.name, .int .i64 x.version, .bool x.gone, .int .i64 x.image, .int .i64 x.want, .int .i64 x.down, .int .i64 x.over, .int .i64 x.next, .int .i64 x.per, .int .i64 x.least, .int .i64 x.most, .int .i64 x.load, .int .i64 x.cool] _ HRA.out Tryz.underlying46 rfl isz_Ssv ?_)
    refine (HFF.out x HXM.out _).mono ?_
    rintro e w5 ⟨rfl, hb5⟩
    have hB5 := hB.trans (hb5.mono hB.size)
    clear hb5 HRA hB
    cases hP : P x with
    | true =>
      have HA : Hid (xs.any P = true) := List.any_eq_true.2 ⟨x, HXM.out, hP⟩
      clear hP HNX
      go_wp2_with fail
      go_ret
      exact ⟨k, rfl, .inl ⟨by omega, HA.out⟩, hB5⟩
    | false =>
      have HN2 := Hid.intro (HNX.out hP)
      clear hP HNX
      go_wp2_with fail
      go_roundw
      case rel => exact ⟨k + 1, by omega, by go_num, HN2, hB5⟩
      case measure => simp [intOf]; omega

set_option maxHeartbeats 4000000 in
set_option maxRecDepth 100000 in
theorem containsF_any (f : Nat) (P : Ssv → Bool) (xs : List Ssv) (a : Option Addr) (cap lo : Nat) (w : World) (hin : SliceC SsvC 13 lo w a xs) (hsm : xs.length ≤ 1048576)
    (hf : ∀ x ∈ xs, ∀ v, Calls Tryz.prog f #[.agg #[.string x.name, .int .i64 x.version, .bool x.gone, .int .i64 x.image, .int .i64 x.want, .int .i64 x.down, .int .i64 x.over, .int .i64 x.next, .int .i64 x.per, .int .i64 x.least, .int .i64 x.most, .int .i64 x.load, .int .i64 x.cool]] v fun e w' => e = .returned (.bool (P x)) ∧ Below v.heap.size v w') (heg : ∀ args w, (callFunc f args).run Tryz.prog w = .ok (.enter f args) w) :
    Calls Tryz.prog 26 #[.slice a xs.length cap, .func (.func f) #[] #[]] w fun e w' => e = .returned (.bool (xs.any P)) ∧ Below w.heap.size w w' := by
  go_enter Tryz.func26, Tryz.ntmps26
  have HCC := Hid.intro (indexF_any f P xs a cap lo w hin hsm hf heg)
  clear hin hf heg
  go_wp2_with fail
  refine HCC.out.mono ?_
  rintro e w4 ⟨k, rfl, hk, hb4⟩
  rcases hk with ⟨h1, h2⟩ | ⟨h1, h2⟩
  · go_wp2_with fail
    go_ret
    exact ⟨ret_bool h2.symm, hb4⟩
  · subst h1
    go_wp2_with fail
    go_ret
    exact ⟨ret_bool h2.symm, hb4⟩

theorem cnt_live_le (l : List Scp) (s : ByteArray) (im : Int) : 0 ≤ (cntL l s im).live ∧ (cntL l s im).live ≤ (l.length : Int) := by
  have h := cntL_two s im l ⟨0, 0, 0, 0, 0⟩ (Int.le_refl _) (Int.le_refl _)
  unfold cntL
  simp only at h
  omega

set_option maxHeartbeats 8000000 in
set_option maxRecDepth 100000 in
theorem offWant_any (x : Sbk) (a1 : Option Addr) (c1 : Nat) (b2 o2 c2 : Nat) (a3 : Option Addr) (c3 : Nat) (p m n lo : Nat) (w : World) (hF : FndS x a1 c1 (some ⟨b2, o2, none⟩) c2 a3 c3 p m n lo w) (hv : SVal x) (hcap : x.copies.length ≤ c2) :
    Calls Tryz.prog 75 #[.pointer (some ⟨p, 0, none⟩)] w fun e w' => e = .returned (.int .i64 (offI x x.services)) ∧ Below w.heap.size w w' := by
  have HF := Hid.intro hF
  have HV := Hid.intro hv
  have HCAP := Hid.intro hcap
  have HL2 := Hid.intro hv.l2
  have kp1 : w.cell? ⟨p, 1, none⟩ = some (.slice a1 x.services.length c1) := hF.blk.cell rfl
  have hl8 := hv.l1
  clear hF hv hcap
  go_enter Tryz.func75, Tryz.ntmps75
  go_upto_region 3 with fail
  clear kp1
  go_loopw [3, 13] (fun s i wr => ∃ (k : Nat) (O : Int), k ≤ x.services.length ∧ i = .int .i64 k ∧ s = .int .i64 O ∧ Hid (O = offI x (x.services.take k)) ∧ 0 ≤ O ∧ O ≤ 210 * (k : Int) ∧ Below w.heap.size w wr) (fun _ i _ => x.services.length - (intOf i).toNat)
  case atStart => exact ⟨0, 0, Nat.zero_le _, rfl, rfl, rfl, Int.le_refl _, by omega, Below.refl _ _⟩
  case round =>
    obtain ⟨k, O, hk, rfl, rfl, HO, hO0, hO1, hB⟩ := hrel
    by_cases hlt : k < x.services.length
    case neg =>
      have hke : k = x.services.length := by omega
      subst hke
      rw [List.take_length] at HO
      go_wp2_with fail
      go_ret
      exact ⟨ret_int HO.out, hB⟩
    obtain ⟨y, hy⟩ : ∃ y, x.services[k]? = some y := ⟨x.services[k], List.getElem?_eq_getElem hlt⟩
    obtain ⟨b, ob, rfl, _, hbl, hc⟩ := (HF.out.n1.below SsvC.holds hB (Nat.le_refl _)).at hy
    have HRA := Hid.intro (rngSsv hc)
    have HSN : Hid (offI x (x.services.take (k + 1)) = offS x O y) := by
      show _ = _
      rw [List.take_add_one, hy, Option.toList_some, offI_snoc, ← HO.out]
    have hwant : 0 ≤ y.want ∧ y.want ≤ 10 := by
      have h := HV.out.s1 k y hy
      unfold svB at h
      simp [inR] at h
      omega
    clear hc hy HO
    have hza : Blk wr.heap.size #[.string ⟨#[]⟩, .int .i64 0, .bool false, .int .i64 0, .int .i64 0, .int .i64 0, .int .i64 0, .int .i64 0, .int .i64 0, .int .i64 0, .int .i64 0, .int .i64 0, .int .i64 0] 46 (wr.alloc (Obj.cells #[.string ⟨#[]⟩, .int .i64 0, .bool false, .int .i64 0, .int .i64 0, .int .i64 0, .int .i64 0, .int .i64 0, .int .i64 0, .int .i64 0, .int .i64 0, .int .i64 0, .int .i64 0] 46)) := Blk.alloc _ _ _
    have HTS : Hid ((wr.alloc (Obj.cells #[.string ⟨#[]⟩, .int .i64 0, .bool false, .int .i64 0, .int .i64 0, .int .i64 0, .int .i64 0, .int .i64 0, .int .i64 0, .int .i64 0, .int .i64 0, .int .i64 0, .int .i64 0] 46)).there wr.heap.size 0 13) := hza.there
    obtain ⟨w5, HW5⟩ : ∃ w5, Hid (w5 = (wr.alloc (Obj.cells #[.string ⟨#[]⟩, .int .i64 0, .bool false, .int .i64 0, .int .i64 0, .int .i64 0, .int .i64 0, .int .i64 0, .int .i64 0, .int .i64 0, .int .i64 0, .int .i64 0, .int .i64 0] 46)).setCells wr.heap.size 0 [.string y.name, .int .i64 y.version, .bool y.gone, .int .i64 y.image, .int .i64 y.want, .int .i64 y.down, .int .i64 y.over, .int .i64 y.next, .int .i64 y.per, .int .i64 y.least, .int .i64 y.most, .int .i64 y.load, .int .i64 y.cool]) := ⟨_, rfl⟩
    have HS5 : Hid (Blk wr.heap.size #[.string y.name, .int .i64 y.version, .bool y.gone, .int .i64 y.image, .int .i64 y.want, .int .i64 y.down, .int .i64 y.over, .int .i64 y.next, .int .i64 y.per, .int .i64 y.least, .int .i64 y.most, .int .i64 y.load, .int .i64 y.cool] 46 w5) := by
      show Blk _ _ _ _
      rw [HW5.out]
      exact hza.setAll #[.string y.name, .int .i64 y.version, .bool y.gone, .int .i64 y.image, .int .i64 y.want, .int .i64 y.down, .int .i64 y.over, .int .i64 y.next, .int .i64 y.per, .int .i64 y.least, .int .i64 y.most, .int .i64 y.load, .int .i64 y.cool] rfl
    have hbx : Below wr.heap.size wr w5 := by
      rw [HW5.out]
      exact below_setCells (Nat.le_refl _) _ _ _ ((Below.refl _ wr).alloc (Nat.le_refl _) _)
    have hB5 := hB.trans (hbx.mono hB.size)
    clear hza hbx hB
    go_upto_region 5 with (first | (refine wpList_load_mid rfl 46 _ rfl b (ob + k * 13) (by first | rfl | (simp [go_sem]; done)) [.string y.name, .int .i64 y.version, .bool y.gone, .int .i64 y.image, .int .i64 y.want, .int .i64 y.down, .int .i64 y.over, .int .i64 y.next, .int .i64 y.per, .int .i64 y.least, .int .i64 y.most, .int .i64 y.load, .int .i64 y.cool] _ HRA.out Tryz.underlying46 rfl isz_Ssv ?_) | (refine wpList_store_to rfl 46 _ _ rfl wr.heap.size 0 #[.string y.name, .int .i64 y.version, .bool y.gone, .int .i64 y.image, .int .i64 y.want, .int .i64 y.down, .int .i64 y.over, .int .i64 y.next, .int .i64 y.per, .int .i64 y.least, .int .i64 y.most, .int .i64 y.load, .int .i64 y.cool] rfl rfl HTS.out isz_Ssv (by simp [Value.oneCell']) w5 HW5.out ?_))
    clear HRA HTS HW5
    generalize wr.heap.size = gs at *
    have k2 : w5.cell? ⟨gs, 2, none⟩ = some (.bool y.gone) := HS5.out.cell rfl
    cases hg : y.gone with
    | true =>
      have HSN2 : Hid (O = offI x (x.services.take (k + 1))) := by show _ = _; rw [HSN.out]; unfold offS; rw [if_pos hg]
      rw [hg] at k2
      clear hg HSN HS5
      go_wp2_with fail
      go_roundw
      case rel => exact ⟨k + 1, O, by omega, by go_num, rfl, HSN2, hO0, by push_cast; omega, hB5⟩
      case measure => simp [intOf]; omega
    | false =>
      have HSN2 : Hid (O + offT x y = offI x (x.services.take (k + 1))) := by show _ = _; rw [HSN.out]; unfold offS; rw [if_neg (by rw [hg]; exact Bool.false_ne_true)]
      rw [hg] at k2
      have HG := Hid.intro hg
      clear hg HSN
      go_upto_region 6 with fail
      clear k2
      go_wp2_with (refine wpList_load_mid rfl 46 _ rfl gs 0 rfl [.string y.name, .int .i64 y.version, .bool y.gone, .int .i64 y.image, .int .i64 y.want, .int .i64 y.down, .int .i64 y.over, .int .i64 y.next, .int .i64 y.per, .int .i64 y.least, .int .i64 y.most, .int .i64 y.load, .int .i64 y.cool] _ HS5.out.rangeA Tryz.underlying46 rfl isz_Ssv ?_)
      refine (fcount_any x (some ⟨b, ob, none⟩) c1 b2 o2 c2 a3 c3 p m n lo y _ (HF.out.below hB5) HV.out HCAP.out).mono ?_
      rintro e w6 ⟨rfl, hb6⟩
      have HS6 := Hid.intro (HS5.out.below hb6 HS5.out.lt)
      have hB6 := hB5.trans (hb6.mono hB5.size)
      clear hb6 hB5 HS5
      have hT := cnt_live_le x.copies y.name y.image
      have hl2 := HL2.out
      have hoff : offT x y = if (cntL x.copies y.name y.image).live - y.want < y.want - (cntL x.copies y.name y.image).live then y.want - (cntL x.copies y.name y.image).live else (cntL x.copies y.name y.image).live - y.want := rfl
      obtain ⟨OT, HOT⟩ : ∃ OT, Hid (offT x y = OT) := ⟨_, rfl⟩
      rw [HOT.out] at hoff HSN2
      generalize cntL x.copies y.name y.image = T at *
      have hTl : T.live ≤ 200 := by omega
      have k4 : w6.cell? ⟨gs, 4, none⟩ = some (.int .i64 y.want) := HS6.out.cell rfl
      have hfl : ∀ w, (Instr.field 66 (.agg #[.int .i64 T.live, .int .i64 T.ready, .int .i64 T.old, .int .i64 T.failed, .int .i64 T.ending]) 0).run Tryz.prog w = .ok (.int .i64 T.live) w := fun _ => by kernel_rfl
      have hw1 : IntKind.i64.wrap (T.live - y.want) = T.live - y.want := by rw [IntKind.wrap_i64]; omega
      have hw2 : IntKind.i64.wrap (y.want - T.live) = y.want - T.live := by rw [IntKind.wrap_i64]; omega
      have hmx : max (T.live - y.want) (y.want - T.live) = OT := by
        rw [hoff]
        split <;> omega
      have hbnd : 0 ≤ OT ∧ OT ≤ 210 := by omega
      have hw3 : IntKind.i64.wrap (O + OT) = O + OT := by rw [IntKind.wrap_i64]; omega
      clear hoff hT
      go_wp2_with fail
      go_roundw
      case rel => exact ⟨k + 1, O + OT, by omega, by go_num, rfl, HSN2, by omega, by push_cast; omega, hB6⟩
      case measure => simp [intOf]; omega

end Go.Proofs.YtfbmljdlkgiliaaGreat
