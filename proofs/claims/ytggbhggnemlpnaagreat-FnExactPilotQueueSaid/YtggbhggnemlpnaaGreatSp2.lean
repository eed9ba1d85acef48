/-
  Walk: a copy looked at by the specification (made by mksp2.py).
-/
import Derived.Test.YtggbhggnemlpnaaGreatSp1
import Derived.Test.YtggbhggnemlpnaaGreatJ36
namespace Go.Proofs.YtggbhggnemlpnaaGreat
open Go.RowKit

def sLike (l : Lik) : Bool := decide (codeOf l.select = 0) && inB l.weight (-9) 9
def sCopy3 (x : Cpy) : Bool := decide (codeOf x.select = 0) && (decide (x.likes.length ≤ 5) && (inB x.apart 0 2 && (nameOrNone x.near && nameOrNone x.fixed)))
def sBad3 (x : Cpy) : Bool := !sCopy3 x
def sCopy (x : Cpy) : Bool := P.nameOk x.name && (P.nameOk x.service && (inB x.rank 0 100 && (inB x.born 0 1000000 && (inB x.room 0 1000 && (inB x.hold 0 1000 && (sCopy3 x && x.likes.all sLike))))))

theorem none_yes {s : ByteArray} (h : s = ⟨#[]⟩) : nameOrNone s = true := by subst h; rfl
theorem none_no {s : ByteArray} (h : ¬ s = ⟨#[]⟩) : nameOrNone s = P.nameOk s := by
  have : s.size ≠ 0 := fun e => h (ByteArray.ext (Array.eq_empty_of_size_eq_zero e))
  simp [nameOrNone, this]
theorem tl_yes {s : ByteArray} (h : s = ⟨#[]⟩) : s.toList = [] := by rw [ByteArray.toList_eq, h]
theorem tl_no {s : ByteArray} (h : ¬ s = ⟨#[]⟩) : ¬ s.toList = [] := by
  rw [ByteArray.toList_eq]
  exact fun e => h (by cases s with | mk x => cases x; simp at e; simp [e])
theorem te_yes {s : ByteArray} (h : s = ⟨#[]⟩) : s.toList.isEmpty = true := by rw [tl_yes h]; rfl
theorem te_no {s : ByteArray} (h : ¬ s = ⟨#[]⟩) : s.toList.isEmpty = false := by simpa using tl_no h

set_option maxHeartbeats 4000000 in
set_option maxRecDepth 100000 in
theorem sCopyOk_any (x : Cpy) (a7 : Option Addr) (c7 lo : Nat) (w : World) (z0 : x.name.size ≤ maxLen) (z1 : x.service.size ≤ maxLen) (z6 : x.select.size ≤ maxLen) (hin : SliceC LikC 2 lo w a7 x.likes) (z9 : x.near.size ≤ maxLen) (z10 : x.fixed.size ≤ maxLen) :
    Calls Tryz.prog 49 #[.agg #[.string x.name, .string x.service, .int .i64 x.rank, .int .i64 x.born, .int .i64 x.room, .int .i64 x.hold, .string x.select, .slice a7 x.likes.length c7, .int .i64 x.apart, .string x.near, .string x.fixed, .string x.at_]] w fun e w' => e = .returned (.bool (sCopy x)) ∧ Below w.heap.size w w' := by
  have HI : Hid (SliceC LikC 2 lo w a7 x.likes) := hin
  have Z0 : Hid (x.name.size ≤ maxLen) := z0
  have Z1 : Hid (x.service.size ≤ maxLen) := z1
  have Z6 : Hid (x.select.size ≤ maxLen) := z6
  have Z9 : Hid (x.near.size ≤ maxLen) := z9
  have Z10 : Hid (x.fixed.size ≤ maxLen) := z10
  have hlen := hin.1
  unfold maxLen at hlen
  have HD : Hid (sCopy x = (P.nameOk x.name && (P.nameOk x.service && (inB x.rank 0 100 && (inB x.born 0 1000000 && (inB x.room 0 1000 && (inB x.hold 0 1000 && (sCopy3 x && x.likes.all sLike)))))))) := rfl
  clear hin z0 z1 z6 z9 z10
  generalize sCopy x = V at *
  go_enter Tryz.func49, Tryz.ntmps49
  go_wp2_with fail
  have HR : Hid ((w.alloc (Obj.cells #[.string x.name, .string x.service, .int .i64 x.rank, .int .i64 x.born, .int .i64 x.room, .int .i64 x.hold, .string x.select, .slice a7 x.likes.length c7, .int .i64 x.apart, .string x.near, .string x.fixed, .string x.at_] 65)).rangeAt w.heap.size 0 [.string x.name, .string x.service, .int .i64 x.rank, .int .i64 x.born, .int .i64 x.room, .int .i64 x.hold, .string x.select, .slice a7 x.likes.length c7, .int .i64 x.apart, .string x.near, .string x.fixed, .string x.at_]) := range_cons (by simp) (range_cons (by simp) (range_cons (by simp) (range_cons (by simp) (range_cons (by simp) (range_cons (by simp) (range_cons (by simp) (range_cons (by simp) (range_cons (by simp) (range_cons (by simp) (range_cons (by simp) (range_cons (by simp) (range_nil _ _ _))))))))))))
  have HB : Hid (Below w.heap.size w (w.alloc (Obj.cells #[.string x.name, .string x.service, .int .i64 x.rank, .int .i64 x.born, .int .i64 x.room, .int .i64 x.hold, .string x.select, .slice a7 x.likes.length c7, .int .i64 x.apart, .string x.near, .string x.fixed, .string x.at_] 65))) := (Below.refl _ _).alloc (Nat.le_refl _) _
  have HS : Hid (w.heap.size < (w.alloc (Obj.cells #[.string x.name, .string x.service, .int .i64 x.rank, .int .i64 x.born, .int .i64 x.room, .int .i64 x.hold, .string x.select, .slice a7 x.likes.length c7, .int .i64 x.apart, .string x.near, .string x.fixed, .string x.at_] 65)).heap.size) := by show _ < _; simp
  generalize w.alloc (Obj.cells #[.string x.name, .string x.service, .int .i64 x.rank, .int .i64 x.born, .int .i64 x.room, .int .i64 x.hold, .string x.select, .slice a7 x.likes.length c7, .int .i64 x.apart, .string x.near, .string x.fixed, .string x.at_] 65) = w0 at *
  refine (nameOk_any _ _ Z0.out).mono ?_
  rintro e w1 ⟨rfl, rfl⟩
  cases h0 : P.nameOk x.name with
  | false =>
    have HC : Hid (V = false) := by show _ = _; rw [HD.out, h0]; rfl
    clear h0 HD
    go_wp2_with fail
    go_ret
    exact ⟨ret_bool HC.out.symm, HB.out⟩
  | true =>
  rw [h0, Bool.true_and] at HD
  clear h0
  have e0 : w1.cell? ⟨w.heap.size, 1, none⟩ = some (.string x.service) := HR.out 1 _ rfl
  go_wp2_with fail
  clear e0
  refine (nameOk_any _ _ Z1.out).mono ?_
  rintro e w1 ⟨rfl, rfl⟩
  cases h0 : P.nameOk x.service with
  | false =>
    have HC : Hid (V = false) := by show _ = _; rw [HD.out, h0]; rfl
    clear h0 HD
    go_wp2_with fail
    go_ret
    exact ⟨ret_bool HC.out.symm, HB.out⟩
  | true =>
  rw [h0, Bool.true_and] at HD
  clear h0
  have e0 : w1.cell? ⟨w.heap.size, 2, none⟩ = some (.int .i64 x.rank) := HR.out 2 _ rfl
  go_wp2_with fail
  clear e0
  refine (in_any _ _ _ _).mono ?_
  rintro e w1 ⟨rfl, rfl⟩
  cases h0 : inB x.rank 0 100 with
  | false =>
    have HC : Hid (V = false) := by show _ = _; rw [HD.out, h0]; rfl
    clear h0 HD
    go_wp2_with fail
    go_ret
    exact ⟨ret_bool HC.out.symm, HB.out⟩
  | true =>
  rw [h0, Bool.true_and] at HD
  clear h0
  have e0 : w1.cell? ⟨w.heap.size, 3, none⟩ = some (.int .i64 x.born) := HR.out 3 _ rfl
  go_wp2_with fail
  clear e0
  refine (in_any _ _ _ _).mono ?_
  rintro e w1 ⟨rfl, rfl⟩
  cases h0 : inB x.born 0 1000000 with
  | false =>
    have HC : Hid (V = false) := by show _ = _; rw [HD.out, h0]; rfl
    clear h0 HD
    go_wp2_with fail
    go_ret
    exact ⟨ret_bool HC.out.symm, HB.out⟩
  | true =>
  rw [h0, Bool.true_and] at HD
  clear h0
  have e0 : w1.cell? ⟨w.heap.size, 4, none⟩ = some (.int .i64 x.room) := HR.out 4 _ rfl
  go_wp2_with fail
  clear e0
  refine (in_any _ _ _ _).mono ?_
  rintro e w1 ⟨rfl, rfl⟩
  cases h0 : inB x.room 0 1000 with
  | false =>
    have HC : Hid (V = false) := by show _ = _; rw [HD.out, h0]; rfl
    clear h0 HD
    go_wp2_with fail
    go_ret
    exact ⟨ret_bool HC.out.symm, HB.out⟩
  | true =>
  rw [h0, Bool.true_and] at HD
  clear h0
  have e0 : w1.cell? ⟨w.heap.size, 5, none⟩ = some (.int .i64 x.hold) := HR.out 5 _ rfl
  go_wp2_with fail
  clear e0
  refine (in_any _ _ _ _).mono ?_
  rintro e w1 ⟨rfl, rfl⟩
  cases h0 : inB x.hold 0 1000 with
  | false =>
    have HC : Hid (V = false) := by show _ = _; rw [HD.out, h0]; rfl
    clear h0 HD
    go_wp2_with fail
    go_ret
    exact ⟨ret_bool HC.out.symm, HB.out⟩
  | true =>
  rw [h0, Bool.true_and] at HD
  clear h0
  have HD3 : Hid (sCopy3 x = (decide (codeOf x.select = 0) && (decide (x.likes.length ≤ 5) && (inB x.apart 0 2 && (nameOrNone x.near && nameOrNone x.fixed))))) := rfl
  go_upto_region 3 with fail
  go_cut [75] (fun c wx => c = .bool (sBad3 x) ∧ Hid (Below w1.heap.size w1 wx))
  case first =>
    have e6 : w1.cell? ⟨w.heap.size, 6, none⟩ = some (.string x.select) := HR.out 6 _ rfl
    go_wp2_with fail
    clear e6
    refine (selectOk_any _ _ Z6.out).mono ?_
    rintro e w2 ⟨rfl, hb⟩
    have HR2 : Hid (w2.rangeAt w.heap.size 0 [.string x.name, .string x.service, .int .i64 x.rank, .int .i64 x.born, .int .i64 x.room, .int .i64 x.hold, .string x.select, .slice a7 x.likes.length c7, .int .i64 x.apart, .string x.near, .string x.fixed, .string x.at_]) := range_belowV HR.out hb HS.out
    have HB2 : Hid (Below w1.heap.size w1 w2) := hb
    clear hb
    cases h0 : decide (codeOf x.select = 0) with
    | false =>
      have HC : Hid (sCopy3 x = false) := by show _ = _; rw [HD3.out, h0]; rfl
      clear h0 HD3 HD
      go_wp2_with fail
      go_meet
      exact ⟨by rw [sBad3, HC.out]; rfl, HB2⟩
    | true =>
    rw [h0, Bool.true_and] at HD3
    clear h0
    have e7 : w2.cell? ⟨w.heap.size, 7, none⟩ = some (.slice a7 x.likes.length c7) := HR2.out 7 _ rfl
    by_cases hl5 : x.likes.length ≤ 5
    rotate_left
    · have HC : Hid (sCopy3 x = false) := by show _ = _; rw [HD3.out, decide_eq_false hl5]; rfl
      clear HD3 HD
      go_wp2_with fail
      go_meet
      exact ⟨by rw [sBad3, HC.out]; rfl, HB2⟩
    rw [decide_eq_true hl5, Bool.true_and] at HD3
    have e8 : w2.cell? ⟨w.heap.size, 8, none⟩ = some (.int .i64 x.apart) := HR2.out 8 _ rfl
    go_wp2_with fail
    refine (in_any _ _ _ _).mono ?_
    rintro e w3 ⟨rfl, rfl⟩
    clear e7 e8
    cases h0 : inB x.apart 0 2 with
    | false =>
      have HC : Hid (sCopy3 x = false) := by show _ = _; rw [HD3.out, h0]; rfl
      clear h0 HD3 HD
      go_wp2_with fail
      go_meet
      exact ⟨by rw [sBad3, HC.out]; rfl, HB2⟩
    | true =>
    rw [h0, Bool.true_and] at HD3
    clear h0
    have e9 : w3.cell? ⟨w.heap.size, 9, none⟩ = some (.string x.near) := HR2.out 9 _ rfl
    have e10 : w3.cell? ⟨w.heap.size, 10, none⟩ = some (.string x.fixed) := HR2.out 10 _ rfl
    by_cases hn : x.near = ⟨#[]⟩
    · have htn := tl_yes hn
      have htn2 := te_yes hn
      rw [none_yes hn, Bool.true_and] at HD3
      clear hn
      by_cases hf : x.fixed = ⟨#[]⟩
      · have HC : Hid (sCopy3 x = true) := by show _ = _; rw [HD3.out, none_yes hf]
        have hte := tl_yes hf
        have hte2 := te_yes hf
        clear hf HD3 HD
        go_wp2_with fail
        go_meet
        exact ⟨by rw [sBad3, HC.out, decide_eq_false (by omega)]; rfl, HB2⟩
      · have hte := tl_no hf
        have hte2 := te_no hf
        rw [none_no hf] at HD3
        clear hf
        go_wp2_with fail
        refine (nameOk_any _ _ Z10.out).mono ?_
        rintro e w4 ⟨rfl, rfl⟩
        cases h0 : P.nameOk x.fixed with
        | false =>
          have HC : Hid (sCopy3 x = false) := by show _ = _; rw [HD3.out, h0]
          clear h0 HD3 HD
          go_wp2_with fail
          go_meet
          exact ⟨by rw [sBad3, HC.out]; rfl, HB2⟩
        | true =>
          have HC : Hid (sCopy3 x = true) := by show _ = _; rw [HD3.out, h0]
          clear h0 HD3 HD
          go_wp2_with fail
          go_meet
          exact ⟨by rw [sBad3, HC.out, decide_eq_false (by omega)]; rfl, HB2⟩
    · have htn := tl_no hn
      have htn2 := te_no hn
      rw [none_no hn] at HD3
      clear hn
      go_wp2_with fail
      refine (nameOk_any _ _ Z9.out).mono ?_
      rintro e w4 ⟨rfl, rfl⟩
      cases h0 : P.nameOk x.near with
      | false =>
        have HC : Hid (sCopy3 x = false) := by show _ = _; rw [HD3.out, h0]; rfl
        clear h0 HD3 HD
        go_wp2_with fail
        go_meet
        exact ⟨by rw [sBad3, HC.out]; rfl, HB2⟩
      | true =>
      rw [h0, Bool.true_and] at HD3
      clear h0
      by_cases hf : x.fixed = ⟨#[]⟩
      · have HC : Hid (sCopy3 x = true) := by show _ = _; rw [HD3.out, none_yes hf]
        have hte := tl_yes hf
        have hte2 := te_yes hf
        clear hf HD3 HD
        go_wp2_with fail
        go_meet
        exact ⟨by rw [sBad3, HC.out, decide_eq_false (by omega)]; rfl, HB2⟩
      · have hte := tl_no hf
        have hte2 := te_no hf
        rw [none_no hf] at HD3
        clear hf
        go_wp2_with fail
        refine (nameOk_any _ _ Z10.out).mono ?_
        rintro e w4 ⟨rfl, rfl⟩
        cases h0 : P.nameOk x.fixed with
        | false =>
          have HC : Hid (sCopy3 x = false) := by show _ = _; rw [HD3.out, h0]
          clear h0 HD3 HD
          go_wp2_with fail
          go_meet
          exact ⟨by rw [sBad3, HC.out]; rfl, HB2⟩
        | true =>
          have HC : Hid (sCopy3 x = true) := by show _ = _; rw [HD3.out, h0]
          clear h0 HD3 HD
          go_wp2_with fail
          go_meet
          exact ⟨by rw [sBad3, HC.out, decide_eq_false (by omega)]; rfl, HB2⟩
  case rest =>
    obtain ⟨rfl, hbc⟩ := hcut
    have HRC : Hid (wc.rangeAt w.heap.size 0 [.string x.name, .string x.service, .int .i64 x.rank, .int .i64 x.born, .int .i64 x.room, .int .i64 x.hold, .string x.select, .slice a7 x.likes.length c7, .int .i64 x.apart, .string x.near, .string x.fixed, .string x.at_]) := range_belowV HR.out hbc.out HS.out
    have HBC : Hid (Below w.heap.size w wc) := HB.out.trans (hbc.out.mono HB.out.size)
    have HSC : Hid (w.heap.size < wc.heap.size) := Nat.lt_of_lt_of_le HS.out hbc.out.size
    clear hbc HR HB HS
    have HBD : Hid (sBad3 x = !sCopy3 x) := rfl
    cases h3 : sBad3 x with
    | true =>
      have HC : Hid (V = false) := by
        have h4 := HBD.out.symm.trans h3
        show _ = _
        rw [HD.out, show sCopy3 x = false from by simpa using h4]; rfl
      clear h3 HD HD3
      go_wp2_with fail
      go_ret
      exact ⟨ret_bool HC.out.symm, HBC.out⟩
    | false =>
    have HD2 : Hid (V = x.likes.all sLike) := by
      have h4 := HBD.out.symm.trans h3
      show _ = _
      rw [HD.out, show sCopy3 x = true from by simpa using h4]; rfl
    clear h3 HD HD3
    go_wp2_with fail
    go_loopw [3] (fun i wr => ∃ k : Nat, k ≤ x.likes.length ∧ i = .int .i64 k ∧ Hid (∀ j y, j < k → x.likes[j]? = some y → sLike y = true) ∧ wr.cell? ⟨w.heap.size, 7, none⟩ = some (.slice a7 x.likes.length c7) ∧ Hid (w.heap.size < wr.heap.size) ∧ Hid (Below w.heap.size w wr)) (fun i _ => x.likes.length - (intOf i).toNat)
    case atStart => exact ⟨0, Nat.zero_le _, rfl, fun j y h => absurd h (Nat.not_lt_zero _), HRC.out 7 _ rfl, HSC, HBC⟩
    case round =>
      clear HRC HSC HBC
      obtain ⟨k, hk, rfl, ho, hcell, hsz, hbel⟩ := hrel
      by_cases hlt : k < x.likes.length
      · obtain ⟨y, hy⟩ : ∃ y, x.likes[k]? = some y := ⟨x.likes[k], List.getElem?_eq_getElem hlt⟩
        obtain ⟨b, o, rfl, _, hbl, hc⟩ := (HI.out.below LikC.holds hbel.out (Nat.le_refl _)).at hy
        obtain ⟨q0, q1, z0⟩ := hc
        simp only [Nat.add_zero] at q0 q1
        have HX : Hid (x.likes[k]? = some y) := hy
        have HZ : Hid (y.select.size ≤ maxLen) := z0
        have bad : Hid (sLike y = false → V = false) := fun h => by rw [HD2.out]; exact List.all_eq_false.mpr ⟨y, List.mem_of_getElem? HX.out, by simp [h]⟩
        have HSL : Hid (sLike y = (decide (codeOf y.select = 0) && inB y.weight (-9) 9)) := rfl
        clear hy z0
        go_wp2_with fail
        refine (selectOk_any _ _ HZ.out).mono ?_
        rintro e w5 ⟨rfl, hb5⟩
        have HB5 : Hid (Below w.heap.size w w5) := hbel.out.trans (hb5.mono hbel.out.size)
        have HS5 : Hid (w.heap.size < w5.heap.size) := Nat.lt_of_lt_of_le hsz.out hb5.size
        have c5 : w5.cell? ⟨w.heap.size, 7, none⟩ = some (.slice (some ⟨b, o, none⟩) x.likes.length c7) := (hb5.cell (p := ⟨w.heap.size, 7, none⟩) hsz.out).trans hcell
        have r1 : w5.cell? ⟨b, o + k * 2 + 1, none⟩ = some (.int .i64 y.weight) := (hb5.cell (p := ⟨b, o + k * 2 + 1, none⟩) hbl).trans q1
        clear hb5 q0 q1 hcell hbel hsz
        cases h0 : decide (codeOf y.select = 0) with
        | false =>
          have HC : Hid (V = false) := bad.out (by rw [HSL.out, h0]; rfl)
          clear h0 bad HSL ho HD2
          go_wp2_with fail
          go_ret
          exact ⟨ret_bool HC.out.symm, HB5.out⟩
        | true =>
        rw [h0, Bool.true_and] at HSL
        clear h0
        go_wp2_with fail
        refine (in_any _ _ _ _).mono ?_
        rintro e w6 ⟨rfl, rfl⟩
        clear r1
        cases h0 : inB y.weight (-9) 9 with
        | false =>
          have HC : Hid (V = false) := bad.out (by rw [HSL.out, h0])
          clear h0 bad HSL ho HD2
          go_wp2_with fail
          go_ret
          exact ⟨ret_bool HC.out.symm, HB5.out⟩
        | true =>
          have HO : Hid (∀ j z, j < k + 1 → x.likes[j]? = some z → sLike z = true) := by
            intro j z hj hz
            by_cases e : j = k
            · subst e
              rw [HX.out] at hz
              cases hz
              rw [HSL.out, h0]
            · exact ho.out j z (by omega) hz
          clear h0 bad HSL ho
          go_wp2_with fail
          go_roundw
          case rel => exact ⟨k + 1, by omega, by go_num, HO, c5, HS5, HB5⟩
          case measure => simp [intOf]; omega
      · have hke : k = x.likes.length := by omega
        have HC : Hid (V = true) := by
          show _ = _
          rw [HD2.out]
          simp only [List.all_eq_true]
          intro y hy
          obtain ⟨j, hj, e⟩ := List.mem_iff_getElem.mp hy
          exact ho.out j y (by omega) (by rw [List.getElem?_eq_getElem hj, e])
        clear ho HD2
        go_wp2_with fail
        go_ret
        exact ⟨ret_bool HC.out.symm, hbel.out⟩

end Go.Proofs.YtggbhggnemlpnaaGreat
