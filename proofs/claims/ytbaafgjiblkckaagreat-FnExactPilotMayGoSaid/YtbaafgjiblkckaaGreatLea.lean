/-
  Walks: who leaves; PilotMayGo of the program.
-/
import Derived.Test.YtbaafgjiblkckaaGreatMgAll
import Derived.Test.YtbaafgjiblkckaaGreatMgp
import Derived.Test.YtbaafgjiblkckaaGreatFvAll
namespace Go.Proofs.YtbaafgjiblkckaaGreat
open Go.RowKit Go.WideMaps Go.Maps

/-- a truth that is told -/
def RetB (e : Ending) (q : Prop) : Prop := ∃ b, e = .returned (.bool b) ∧ (b = true ↔ q)
def RetVB (e : Ending) (q : Prop) : Prop := ∃ v b, e = .returned (.tuple #[v, .bool b]) ∧ (b = true ↔ q)

def May (x : Flt) (gone : List ByteArray) : Prop := MayA x gone gone.length ∧ MayC x gone x.services.length
def MayV (x : Flt) (gone : List ByteArray) : Prop := validI x = true ∧ May x gone

set_option maxHeartbeats 2000000 in
set_option maxRecDepth 100000 in
theorem leaving_any (p m1 m2 m3 m4 : Nat) (x : Flt) (a1 : Option Addr) (c1 : Nat) (a2 : Option Addr) (c2 : Nat) (a3 : Option Addr) (c3 : Nat) (lo : Nat) (gone : List ByteArray) (ga : Option Addr) (gc lo2 : Nat) (w : World) (hf : Found p m1 m2 m3 m4 x a1 c1 a2 c2 a3 c3 w) (n2 : SliceC SvcC 2 lo w a2 x.services) (n3 : SliceC CpyC 12 lo w a3 x.copies) (hg : SliceC StrC 1 lo2 w ga gone) (hsm : gone.length ≤ 1048576) (hv : validI x = true) :
    Calls Tryz.prog 21 #[.pointer (some ⟨p, 0, none⟩), .slice ga gone.length gc] w fun e w' => RetVB e (May x gone) ∧ Below w.heap.size w w' := by
  have HF := Hid.intro hf
  have N2 := Hid.intro n2
  have N3 := Hid.intro n3
  have HG := Hid.intro hg
  have HV := Hid.intro hv
  obtain ⟨l2, l3, hs, hc, hsp, hsv⟩ := valid_parts hv
  have HSP := Hid.intro hsp
  have HSV := Hid.intro hsv
  clear hf n2 n3 hg hv hs hc hsp hsv
  go_enter Tryz.func21, Tryz.ntmps21
  go_wp2_with fail
  refine (placesOf_any p m3 (cpN x) gone ga gc lo2 _ (HF.out.1 6 _ rfl) (by have := HF.out.2.2.2.2.1; simpa using this) HG.out hsm).mono ?_
  rintro e w1 ⟨hb1, hh⟩
  have HB1 := Hid.intro hb1
  rcases hh with ⟨rfl, j, g, hj, hl⟩ | ⟨pl, v, rfl, hp, hown⟩
  · have HN := Hid.intro (no_place hj hl)
    clear hb1 hj hl
    go_wp2_with fail
    go_ret2
    exact ⟨⟨_, false, rfl, ⟨(fun h => by cases h), (fun h => absurd h.1 HN.out)⟩⟩, HB1.out⟩
  · have HP := Hid.intro hp
    have HL := Hid.intro (leave_iff HV.out hp)
    have hpl : pl.length = gone.length := hp.1
    rw [plV_in] at hown
    obtain ⟨pa, pc, rfl, hps⟩ := row_slice (is := plI pl) (by simpa using hown) (by simp; unfold maxLen; omega)
    simp only [List.length_map] at *
    have HIN : Hid (∀ (j q : Nat), pl[j]? = some q → q < x.copies.length) := by
      intro j q hj
      have hjl := lt_of_some hj
      obtain ⟨r, h1, h2⟩ := hp.2 j _ (by omega) (List.getElem?_eq_getElem (by omega))
      rw [hj] at h1
      cases h1
      simpa using (lastOf_get h2).1
    have HPS := Hid.intro hps
    have HOW := Hid.intro hown
    have HF1 := Hid.intro (HF.out.below hb1)
    have N3' := Hid.intro (N3.out.below CpyC.holds hb1 (Nat.le_refl _))
    have N2' := Hid.intro (N2.out.below SvcC.holds hb1 (Nat.le_refl _))
    have P3 : w1.cell? ⟨p, 3, none⟩ = some (.slice a3 x.copies.length c3) := HF1.out.1 3 _ rfl
    have HPL : Hid (pl.length = gone.length) := hpl
    have hsm' : pl.length ≤ 1048576 := by omega
    clear hp hps hown hb1 hpl HP hsm
    go_wp2_with fail
    go_loopw [20] (fun i wr => ∃ (k : Nat), k ≤ pl.length ∧ i = .int .i64 k ∧ Hid (LeaveA x pl k) ∧ wr = w1) (fun i _ => pl.length - (intOf i).toNat)
    case atStart => exact ⟨0, Nat.zero_le _, rfl, ⟨fun j q h => absurd h (Nat.not_lt_zero _), fun j q r h => absurd h (Nat.not_lt_zero _)⟩, rfl⟩
    case round =>
      obtain ⟨k, hk, rfl, hA, rfl⟩ := hrel
      by_cases hlt : k < pl.length
      · obtain ⟨q, hq⟩ : ∃ q, pl[k]? = some q := ⟨pl[k], List.getElem?_eq_getElem hlt⟩
        have hqc := HIN.out k q hq
        obtain ⟨y, hy⟩ : ∃ y, x.copies[q]? = some y := ⟨x.copies[q], List.getElem?_eq_getElem hqc⟩
        obtain ⟨b', o', rfl, _, _, hcp⟩ := HPS.out.at (plI_at hq)
        have t0 : _ = _ := hcp
        simp only [Nat.mul_one, Nat.add_zero] at t0
        obtain ⟨b, o, rfl, _, _, hc⟩ := N3'.out.at hy
        obtain ⟨a7, c7, q0, q1, q2, q3, q4, q5, q6, q7, q8, q9, q10, q11, z0, z1, z6, z9, z10, z11, z7⟩ := hc
        have HQ := Hid.intro hq
        have HY := Hid.intro hy
        clear hcp q0 q1 q2 q3 q4 q5 q6 q7 q8 q9 q10 z0 z1 z6 z9 z10 z11 z7 hq hy
        by_cases hat : y.at_ = ⟨#[]⟩
        · have HN : Hid (¬ LeaveA x pl pl.length) := by
            intro h
            obtain ⟨c, h1, h2⟩ := h.1 k q hlt HQ.out
            rw [HY.out] at h1
            cases h1
            exact h2 hat
          have hte := empty_toList hat
          have hte2 : y.at_.toList.isEmpty = true := by rw [hte]; rfl
          clear hat
          go_wp2_with fail
          go_ret2
          exact ⟨⟨_, false, rfl, ⟨(fun h => by cases h), (fun h => absurd (HL.out.2 h).1 HN.out)⟩⟩, HB1.out⟩
        · have hte := nonempty_toList hat
          have hte2 : y.at_.toList.isEmpty = false := by
            cases h : y.at_.toList with
            | nil => exact absurd h hte
            | cons a l => rfl
          have HAT := Hid.intro hat
          clear hat
          cases k with
          | zero =>
            have t0' : wr.cell? ⟨b', o', none⟩ = some (.int .i64 (q : Int)) := by simpa using t0
            go_wp2_with fail
            go_roundw
            case rel =>
              refine ⟨0 + 1, by omega, by go_num, ⟨fun j r hj hr => ?_, fun j q r h => absurd h (by omega)⟩, trivial⟩
              have : j = 0 := by omega
              subst this
              rw [HQ.out] at hr
              cases hr
              exact ⟨y, HY.out, HAT.out⟩
            case measure => simp [intOf]; omega
          | succ m =>
            obtain ⟨r, hr⟩ : ∃ r, pl[m]? = some r := ⟨pl[m], List.getElem?_eq_getElem (by omega)⟩
            have t1 : wr.cell? ⟨b', o' + m, none⟩ = some (.int .i64 (r : Int)) := by
              obtain ⟨b2, o2, e, _, _, hcp⟩ := HPS.out.at (plI_at hr)
              cases e
              have t1 : _ = _ := hcp
              simpa only [Nat.mul_one, Nat.add_zero] using t1
            have HR := Hid.intro hr
            clear hr
            by_cases hge : (q : Int) ≤ (r : Int)
            · have HN : Hid (¬ LeaveA x pl pl.length) := by
                intro h
                have := h.2 m r q hlt HR.out HQ.out
                omega
              go_wp2_with fail
              go_ret2
              exact ⟨⟨_, false, rfl, ⟨(fun h => by cases h), (fun h => absurd (HL.out.2 h).1 HN.out)⟩⟩, HB1.out⟩
            · go_wp2_with fail
              go_roundw
              case rel =>
                refine ⟨m + 1 + 1, by omega, by go_num, ⟨fun j r' hj hr => ?_, fun j u u' hj hu hu' => ?_⟩, trivial⟩
                · by_cases e : j = m + 1
                  · subst e
                    rw [HQ.out] at hr
                    cases hr
                    exact ⟨y, HY.out, HAT.out⟩
                  · exact hA.out.1 j r' (by omega) hr
                · by_cases e : j = m
                  · subst e
                    rw [HR.out] at hu
                    rw [HQ.out] at hu'
                    cases hu
                    cases hu'
                    omega
                  · exact hA.out.2 j u u' (by omega) hu hu'
              case measure => simp [intOf]; omega
      · have hke : k = pl.length := by omega
        subst hke
        go_wp2_with fail
        refine (spare_any p m2 x a2 c2 a3 c3 lo _ (HF1.out.1 2 _ rfl) P3 (HF1.out.1 5 _ rfl) HF1.out.2.2.2.1 N2'.out N3'.out l2 l3 HSP.out HSV.out).mono ?_
        rintro e w2 ⟨g, is, rfl, hS, hown, hb2⟩
        have HS := Hid.intro hS
        have HO := Hid.intro hown
        have HB2 := Hid.intro hb2
        have HF2 := Hid.intro (HF1.out.below hb2)
        have P3' : w2.cell? ⟨p, 3, none⟩ = some (.slice a3 x.copies.length c3) := HF2.out.1 3 _ rfl
        clear hS hown hb2
        go_wp2_with fail
        refine (spares_any p m2 x a3 c3 lo w.heap.size pl pa pc is g wr.heap.size _ P3' (HF2.out.1 5 _ rfl) HF2.out.2.2.2.1 (N3'.out.below CpyC.holds HB2.out (Nat.le_refl _)) l2 l3 HSP.out HSV.out (HPS.out.below IntC.holds HB2.out (Nat.le_refl _)) hsm' HIN.out HS.out HO.out).mono ?_
        rintro e w3 ⟨bb, rfl, hbb, hb3⟩
        have HBB := Hid.intro hbb
        have HB3 := Hid.intro hb3
        clear hbb hb3
        go_wp2_with fail
        go_ret2
        refine ⟨⟨_, bb, rfl, ⟨fun h => HL.out.1 ⟨hA.out, HBB.out.1 h⟩, fun h => HBB.out.2 (HL.out.2 h).2⟩⟩, ?_⟩
        have h1 := HB1.out.trans (HB2.out.mono HB1.out.size)
        exact h1.trans (HB3.out.mono h1.size)

set_option maxHeartbeats 2000000 in
set_option maxRecDepth 100000 in
theorem implMayGo_any (x : Flt) (a1 : Option Addr) (c1 : Nat) (a2 : Option Addr) (c2 : Nat) (a3 : Option Addr) (c3 : Nat) (lo : Nat) (gone : List ByteArray) (ga : Option Addr) (gc lo2 : Nat) (w : World) (n1 : SliceC BrtC 6 lo w a1 x.berths) (n2 : SliceC SvcC 2 lo w a2 x.services) (n3 : SliceC CpyC 12 lo w a3 x.copies) (hg : SliceC StrC 1 lo2 w ga gone) (hsm : gone.length ≤ 1048576)
    (l1 : x.berths.length ≤ 1048576) (l2 : x.services.length ≤ 1048576) (l3 : x.copies.length ≤ 1048576) :
    Calls Tryz.prog 9 #[.agg #[.bool x.pack, .slice a1 x.berths.length c1, .slice a2 x.services.length c2, .slice a3 x.copies.length c3], .slice ga gone.length gc] w fun e w' => RetB e (MayV x gone) ∧ Below w.heap.size w w' := by
  have N1 := Hid.intro n1
  have N2 := Hid.intro n2
  have N3 := Hid.intro n3
  have HG := Hid.intro hg
  clear n1 n2 n3 hg
  go_enter Tryz.func9, Tryz.ntmps9
  go_wp2_with fail
  have hb0 : ∀ o, Below w.heap.size w (w.alloc o) := fun o => (Below.refl _ w).alloc (Nat.le_refl _) o
  refine (findValid_any x a1 c1 a2 c2 a3 c3 lo _ (N1.out.below BrtC.holds (hb0 _) (Nat.le_refl _)) (N2.out.below SvcC.holds (hb0 _) (Nat.le_refl _)) (N3.out.below CpyC.holds (hb0 _) (Nat.le_refl _)) l1 l2 l3).mono ?_
  rintro e w1 ⟨v, rfl, hb1, hfd⟩
  have HB1 : Hid (Below w.heap.size w w1) := (hb0 _).trans (hb1.mono (by simp))
  clear hb0 hb1
  have HV0 : Hid (∀ b, validI x = b → validI x = b) := fun _ h => h
  cases hv : validI x with
  | false =>
    have HV := Hid.intro hv
    clear hfd hv HV0
    go_wp2_with fail
    go_ret
    exact ⟨⟨false, rfl, ⟨(fun h => by cases h), (fun h => absurd (HV.out.symm.trans h.1) (by decide))⟩⟩, HB1.out⟩
  | true =>
    obtain ⟨p, m1, m2, m3, m4, rfl, _, _, hF⟩ := hfd hv
    have HF := Hid.intro hF
    have HV := Hid.intro hv
    clear hF hfd hv HV0
    go_wp2_with fail
    refine (leaving_any p m1 m2 m3 m4 x a1 c1 a2 c2 a3 c3 lo gone ga gc lo2 _ HF.out (N2.out.below SvcC.holds HB1.out (Nat.le_refl _)) (N3.out.below CpyC.holds HB1.out (Nat.le_refl _)) (HG.out.below StrC.holds HB1.out (Nat.le_refl _)) hsm HV.out).mono ?_
    rintro e w2 ⟨⟨u, b, rfl, hbb⟩, hb2⟩
    have HBB := Hid.intro hbb
    have HB2 : Hid (Below w.heap.size w w2) := HB1.out.trans (hb2.mono HB1.out.size)
    clear hbb hb2
    go_wp2_with fail
    go_ret
    exact ⟨⟨b, rfl, ⟨fun h => ⟨HV.out, HBB.out.1 h⟩, fun h => HBB.out.2 h.2⟩⟩, HB2.out⟩

end Go.Proofs.YtbaafgjiblkckaaGreat
