/-
  The law FnPilotSelect (made by mkslm.py).
-/
import Derived.Test.YthjicahpfhjfdaaGreatDoorSlL
import Derived.Test.YthjicahpfhjfdaaGreatDoorJ35
import Derived.Test.YthjicahpfhjfdaaGreatDoorJ29
import Derived.Test.YthjicahpfhjfdaaGreatDoorJ42
namespace Go.Proofs.YthjicahpfhjfdaaGreatDoor
open Go.RowKit

theorem cellG {w w' : World} {p : Addr} {v : Value} (h : w.cell? p = some v) (hb : Below w.heap.size w w') : w'.cell? p = some v := (hb.cell (p := p) (block_lt_of_cell h)).trans h
theorem rangeG {w w' : World} {g o : Nat} {l : List Value} (h : w.rangeAt g o l) (hb : Below w.heap.size w w') : w'.rangeAt g o l := fun j u hj => cellG (h j u hj) hb
theorem errLaid_grown {w w' : World} (h : ErrLaid w) (hb : Below w.heap.size w w') : ErrLaid w' := cellG h hb
theorem cell_new (w : World) (v : Value) (T : TypeId) : (w.alloc (Obj.cells #[v] T)).cell? ⟨w.heap.size, 0, none⟩ = some v := (Blk.alloc w #[v] T).cell rfl

theorem isE_of {s : ByteArray} (h : s = ⟨#[]⟩) : s.toList.isEmpty = true ∧ (!s.toList.isEmpty) = false := by
  have := nil_of_size (s := s) (by rw [h]; rfl)
  rw [this]
  exact ⟨rfl, rfl⟩
theorem isE_not {s : ByteArray} (h : s ≠ ⟨#[]⟩) : s.toList.isEmpty = false ∧ (!s.toList.isEmpty) = true := by
  cases e : s.toList with
  | nil => exact absurd (mt_size (size_of_nil e)) h
  | cons a l => exact ⟨rfl, rfl⟩

theorem small_nodes (t : ByteArray) : Small (nodesOf t) := by
  unfold nodesOf
  split
  · rename_i h
    obtain ⟨h1, h2, h3, h4⟩ := tree_facts h
    rcases h2 with e | e
    · rw [e]
      exact ⟨by decide, fun n hn => by simp [post, P.nonT] at hn; subst hn; exact ⟨by decide, by decide⟩⟩
    · have := (tree_ok h).2.1
      exact ⟨by omega, fun n hn => by have := post_small _ h1 e n hn; omega⟩
  · exact ⟨by simp, fun n hn => by cases hn⟩

/-- a row of texts of the call's own -/
structure RevR (W w : World) (b c : Nat) (rs : List ByteArray) : Prop where
  O : w.ownsRow W.heap.size 9 1 (.slice (some ⟨b, 0, none⟩) rs.length c) rs.length (rs.map Value.string)
  T : Below W.heap.size W w
theorem RevR.blk {W w : World} {b c : Nat} {rs : List ByteArray} (h : RevR W w b c rs) : W.heap.size ≤ b ∧ b < w.heap.size := h.O.lt b rfl
theorem RevR.app {b b' c' : Nat} {W w w' : World} {rs : List ByteArray} {s : ByteArray} (hT : Below W.heap.size W w) (hb : W.heap.size ≤ b) (hO : w'.ownsRow W.heap.size 9 1 (.slice (some ⟨b', 0, none⟩) (rs.length + 1) c') (rs.length + 1) (rs.map Value.string ++ [.string s])) {row : Option Nat} (hg : w.grownBy w' row) (hr : row = some b) : RevR W w' b' c' (rs ++ [s]) := by
  subst hr
  refine ⟨?_, hT.trans ((Below.refl _ _).grown hg hT.size (fun i hi => by cases hi; exact hb))⟩
  have : (rs ++ [s]).length = rs.length + 1 := by simp
  rw [this, List.map_append]
  exact hO
theorem drop_rev {ms : List ByteArray} {j : Nat} {s : ByteArray} (h : ms[j]? = some s) : (ms.drop j).reverse = (ms.drop (j + 1)).reverse ++ [s] := by
  obtain ⟨hlt, e⟩ := List.getElem?_eq_some_iff.1 h
  rw [List.drop_eq_getElem_cons hlt, List.reverse_cons, e]

theorem own_read {ns : List P.Nd} (h : P.outI ns ≠ ⟨#[]⟩) : codeOf (P.outI ns) = 0 ∧ nodesOf (P.outI ns) = ns := by
  obtain ⟨t, _, h2, h3, h4, h5⟩ := outI_some h
  rw [h4]
  exact ⟨(read_pr h3 h5).1, (nodes_pr h3 h5).trans h2.symm⟩

set_option maxHeartbeats 8000000 in
set_option maxRecDepth 100000 in
theorem law_any (xs : List Nat) (a : Option Addr) (cap : Nat) (w : World) (hin : ByIn a xs w) (hc : xs.length ≤ cap) (hE : ErrLaid w) :
    Calls Tryz.prog 3 #[.slice a xs.length cap] w fun e w' => e = .returned (.bool true) ∧ Below w.heap.size w w' := by
  by_cases hbig : (1048576 : Int) < xs.length
  · go_enter Tryz.func3, Tryz.ntmps3
    go_wp2_with fail
    go_ret
    exact ⟨rfl, Below.refl _ _⟩
  have hl : xs.length ≤ 1048576 := by omega
  go_enter Tryz.func3, Tryz.ntmps3
  go_wp2_with fail
  refine (drawMeets_any xs a cap _ hin hl hc).mono ?_
  rintro e w1 ⟨v, am, ms, cm, rfl, hml, hms, hM, ns, ⟨g, cn, rfl, _, hg, hr⟩, hnl, hsh, hb⟩
  have HI := Hid.intro (hin.below hb)
  have HE := Hid.intro (errLaid_grown hE hb)
  have HN := Hid.intro (nodes0_row hg hr)
  have HG := Hid.intro hr
  have HM := Hid.intro hM
  have HB := Hid.intro hb
  have HS := Hid.intro (hsh.small (by omega))
  have HMS := Hid.intro hms
  clear hin hb hr hg hM hsh hE hms
  obtain ⟨iS, hiS, hs0, hs1, hs2⟩ := info_parts infoSt
  obtain ⟨i0, hi0, hz0, hz1, hz2⟩ := info_parts info_nd
  have hba := (Below.refl w1.heap.size w1).alloc (Nat.le_refl _) (Obj.cells #[.slice (some ⟨g, 0, none⟩) ns.length cn] 25)
  replace HI := Hid.intro (HI.out.below hba)
  replace HE := Hid.intro (errLaid_grown HE.out hba)
  replace HN := Hid.intro (HN.out.grown hba)
  replace HG := Hid.intro (rangeG HG.out hba)
  replace HM := Hid.intro (HM.out.below StrC.holds hba (Nat.le_refl _))
  replace HB := Hid.intro (HB.out.trans (hba.mono HB.out.size))
  have CX := cell_new w1 (.slice (some ⟨g, 0, none⟩) ns.length cn) 25
  clear hba
  go_wp2_with fail
  generalize w1.alloc (Obj.cells #[.slice (some ⟨g, 0, none⟩) ns.length cn] 25) = w2 at *
  generalize w1.heap.size = bx at *
  refine (implPrint_any ns g cn _ HN.out HS.out).mono ?_
  rintro e w3 ⟨rfl, hb⟩
  replace HI := Hid.intro (HI.out.below hb)
  replace HE := Hid.intro (errLaid_grown HE.out hb)
  replace HN := Hid.intro (HN.out.grown hb)
  replace HG := Hid.intro (rangeG HG.out hb)
  replace HM := Hid.intro (HM.out.below StrC.holds hb (Nat.le_refl _))
  replace HB := Hid.intro (HB.out.trans (hb.mono HB.out.size))
  replace CX := cellG CX hb
  clear hb
  go_wp2_with fail
  refine (specPrint_any ns g cn _ HN.out HS.out).mono ?_
  rintro e w4 ⟨rfl, hb⟩
  replace HI := Hid.intro (HI.out.below hb)
  replace HE := Hid.intro (errLaid_grown HE.out hb)
  replace HN := Hid.intro (HN.out.grown hb)
  replace HG := Hid.intro (rangeG HG.out hb)
  replace HM := Hid.intro (HM.out.below StrC.holds hb (Nat.le_refl _))
  replace HB := Hid.intro (HB.out.trans (hb.mono HB.out.size))
  replace CX := cellG CX hb
  clear hb
  go_upto_if 35 with fail
  go_cut [] (fun wz => Hid (Below w4.heap.size w4 wz))
  case first =>
    have HQ := Hid.intro (Below.refl w4.heap.size w4)
    clear HI HM HB HG
    by_cases hs : P.outI ns = ⟨#[]⟩
    · obtain ⟨hsb, hsc⟩ := isE_of hs
      clear hs
      rw [hsc]
      go_wp2_with fail
      go_meet
      exact HQ
    · obtain ⟨hz, hn⟩ := own_read hs
      have hsl := outI_size ns
      obtain ⟨hsb, hsc⟩ := isE_not hs
      rw [hsc]
      go_wp2_with fail
      refine (implParse_any (P.outI ns) _ (by unfold maxLen; omega) HE.out).mono ?_
      rintro e w5 ⟨v, rfl, hO, hb⟩
      rw [hz]
      rw [hn] at hO
      obtain ⟨az, cz, rfl, hZ⟩ := hO.atS
      clear HE
      replace HN := Hid.intro (HN.out.grown hb)
      replace HQ := Hid.intro (HQ.out.trans (hb.mono HQ.out.size))
      replace CX := cellG CX hb
      clear hb hO hz hn
      have HZ := Hid.intro hZ
      clear hZ
      have hba := (Below.refl w5.heap.size w5).alloc (Nat.le_refl _) (Obj.cells #[.slice az ns.length cz] 25)
      replace HN := Hid.intro (HN.out.grown hba)
      replace HQ := Hid.intro (HQ.out.trans (hba.mono HQ.out.size))
      replace HZ := Hid.intro (HZ.out.grown hba)
      replace CX := cellG CX hba
      have CZ := cell_new w5 (.slice az ns.length cz) 25
      clear hba
      go_wp2_with fail
      generalize w5.alloc (Obj.cells #[.slice az ns.length cz] 25) = w6 at *
      generalize w5.heap.size = bz at *
      refine (wpSelect_any ns _ _ _ _ _ (.inr ⟨g, rfl, HN.out⟩) HZ.out (by omega)).mono ?_
      rintro e w7 ⟨rfl, hb⟩
      replace HN := Hid.intro (HN.out.grown hb)
      replace HQ := Hid.intro (HQ.out.trans (hb.mono HQ.out.size))
      replace HZ := Hid.intro (HZ.out.grown hb)
      replace CX := cellG CX hb
      replace CZ := cellG CZ hb
      clear hb
      go_wp2_with fail
      go_meet
      exact HQ
  case rest =>
    have hb := hcut.out
    replace HI := Hid.intro (HI.out.below hb)
    replace HE := Hid.intro (errLaid_grown HE.out hb)
    replace HN := Hid.intro (HN.out.grown hb)
    replace HG := Hid.intro (rangeG HG.out hb)
    replace HM := Hid.intro (HM.out.below StrC.holds hb (Nat.le_refl _))
    replace HB := Hid.intro (HB.out.trans (hb.mono HB.out.size))
    replace CX := cellG CX hb
    clear hb hcut
    go_wp2_with fail
    refine (drawParse_any xs a cap _ HI.out hl hc).mono ?_
    rintro e w8 ⟨t, rfl, ht, hb⟩
    clear HI
    replace HE := Hid.intro (errLaid_grown HE.out hb)
    replace HN := Hid.intro (HN.out.grown hb)
    replace HG := Hid.intro (rangeG HG.out hb)
    replace HM := Hid.intro (HM.out.below StrC.holds hb (Nat.le_refl _))
    replace HB := Hid.intro (HB.out.trans (hb.mono HB.out.size))
    replace CX := cellG CX hb
    clear hb
    go_wp2_with fail
    have htm : t.size ≤ maxLen := by unfold maxLen; omega
    refine (implParse_any t _ htm HE.out).mono ?_
    rintro e w9 ⟨v, rfl, hO, hb⟩
    obtain ⟨ay, cy, rfl, hY⟩ := hO.atS
    replace HE := Hid.intro (errLaid_grown HE.out hb)
    replace HN := Hid.intro (HN.out.grown hb)
    replace HG := Hid.intro (rangeG HG.out hb)
    replace HM := Hid.intro (HM.out.below StrC.holds hb (Nat.le_refl _))
    replace HB := Hid.intro (HB.out.trans (hb.mono HB.out.size))
    replace CX := cellG CX hb
    clear hb hO
    have HY := Hid.intro hY
    clear hY
    have hba := (Below.refl w9.heap.size w9).alloc (Nat.le_refl _) (Obj.cells #[.slice ay (nodesOf t).length cy] 25)
    replace HE := Hid.intro (errLaid_grown HE.out hba)
    replace HN := Hid.intro (HN.out.grown hba)
    replace HG := Hid.intro (rangeG HG.out hba)
    replace HM := Hid.intro (HM.out.below StrC.holds hba (Nat.le_refl _))
    replace HB := Hid.intro (HB.out.trans (hba.mono HB.out.size))
    replace HY := Hid.intro (HY.out.grown hba)
    replace CX := cellG CX hba
    have CY := cell_new w9 (.slice ay (nodesOf t).length cy) 25
    clear hba
    go_wp2_with fail
    generalize w9.alloc (Obj.cells #[.slice ay (nodesOf t).length cy] 25) = w10 at *
    generalize w9.heap.size = by_ at *
    refine (parse_any t _ htm).mono ?_
    rintro e w11 ⟨av, cv, rfl, hO, hb⟩
    replace HE := Hid.intro (errLaid_grown HE.out hb)
    replace HN := Hid.intro (HN.out.grown hb)
    replace HG := Hid.intro (rangeG HG.out hb)
    replace HM := Hid.intro (HM.out.below StrC.holds hb (Nat.le_refl _))
    replace HB := Hid.intro (HB.out.trans (hb.mono HB.out.size))
    replace HY := Hid.intro (HY.out.grown hb)
    replace CX := cellG CX hb
    replace CY := cellG CY hb
    have HV := Hid.intro hO.atS
    clear hb hO
    have hba := (Below.refl w11.heap.size w11).alloc (Nat.le_refl _) (Obj.cells #[.slice av (nodesOf t).length cv] 25)
    replace HE := Hid.intro (errLaid_grown HE.out hba)
    replace HN := Hid.intro (HN.out.grown hba)
    replace HG := Hid.intro (rangeG HG.out hba)
    replace HM := Hid.intro (HM.out.below StrC.holds hba (Nat.le_refl _))
    replace HB := Hid.intro (HB.out.trans (hba.mono HB.out.size))
    replace HY := Hid.intro (HY.out.grown hba)
    replace HV := Hid.intro (HV.out.grown hba)
    replace CX := cellG CX hba
    replace CY := cellG CY hba
    have CV := cell_new w11 (.slice av (nodesOf t).length cv) 25
    clear hba
    go_wp2_with fail
    generalize w11.alloc (Obj.cells #[.slice av (nodesOf t).length cv] 25) = w12 at *
    generalize w11.heap.size = bv at *
    have hyl := (small_nodes t).1
    refine (wpSelect_any (nodesOf t) _ _ _ _ _ HY.out HV.out (by omega)).mono ?_
    rintro e w13 ⟨rfl, hb⟩
    replace HE := Hid.intro (errLaid_grown HE.out hb)
    replace HN := Hid.intro (HN.out.grown hb)
    replace HG := Hid.intro (rangeG HG.out hb)
    replace HM := Hid.intro (HM.out.below StrC.holds hb (Nat.le_refl _))
    replace HB := Hid.intro (HB.out.trans (hb.mono HB.out.size))
    replace HY := Hid.intro (HY.out.grown hb)
    replace HV := Hid.intro (HV.out.grown hb)
    replace CX := cellG CX hb
    replace CY := cellG CY hb
    replace CV := cellG CV hb
    clear hb
    clear HV CV
    go_wp2_with fail
    refine (printAt_any (nodesOf t) ay cy _ HY.out (small_nodes t)).mono ?_
    rintro e w14 ⟨rfl, hb⟩
    replace HE := Hid.intro (errLaid_grown HE.out hb)
    replace HN := Hid.intro (HN.out.grown hb)
    replace HG := Hid.intro (rangeG HG.out hb)
    replace HM := Hid.intro (HM.out.below StrC.holds hb (Nat.le_refl _))
    replace HB := Hid.intro (HB.out.trans (hb.mono HB.out.size))
    replace HY := Hid.intro (HY.out.grown hb)
    replace CX := cellG CX hb
    replace CY := cellG CY hb
    clear hb
    go_upto_region 17 with fail
    go_cut [77] (fun c wz => ∃ k : Bool, c = .bool k ∧ (k = true → codeOf t = 0 ∧ P.outI (nodesOf t) ≠ ⟨#[]⟩) ∧ wz = w14)
    case first =>
      by_cases hk0 : codeOf t = 0
      · have hkb : ((codeOf t : Int) == 0) = true := by rw [hk0]; rfl
        by_cases hp : P.outI (nodesOf t) = ⟨#[]⟩
        · obtain ⟨hsb, hsc⟩ := isE_of hp
          have HP := Hid.intro hp
          clear hp
          go_wp2_with fail
          go_meet
          exact ⟨false, by first | rfl | rw [hsc], (fun h => by cases h), rfl⟩
        · obtain ⟨hsb, hsc⟩ := isE_not hp
          go_wp2_with fail
          go_meet
          exact ⟨true, by first | rfl | rw [hsc], fun _ => ⟨hk0, hp⟩, rfl⟩
      · have hkb : ((codeOf t : Int) == 0) = false := by rw [beq_eq_false_iff_ne]; omega
        go_wp2_with fail
        go_meet
        exact ⟨false, rfl, (fun h => by cases h), rfl⟩
    case rest =>
      obtain ⟨k, rfl, hk, rfl⟩ := hcut
      have HK := Hid.intro hk
      clear hk
      go_upto_if 77 with fail
      go_cut [] (fun wz => Hid (Below wc.heap.size wc wz))
      case first =>
        have HQ := Hid.intro (Below.refl wc.heap.size wc)
        clear HN HM HB CX HG
        cases k with
        | false =>
          go_wp2_with fail
          go_meet
          exact HQ
        | true =>
          obtain ⟨hk0, hp⟩ := HK.out rfl
          obtain ⟨hz, hn⟩ := again hp
          have hsl := outI_size (nodesOf t)
          clear HK
          go_wp2_with fail
          refine (implParse_any (P.outI (nodesOf t)) _ (by unfold maxLen; omega) HE.out).mono ?_
          rintro e w15 ⟨v, rfl, hO, hb⟩
          rw [hz]
          rw [hn] at hO
          obtain ⟨az, cz, rfl, hZ⟩ := hO.atS
          clear HE
          replace HY := Hid.intro (HY.out.grown hb)
          replace HQ := Hid.intro (HQ.out.trans (hb.mono HQ.out.size))
          replace CY := cellG CY hb
          clear hb hO hz hn hp hk0
          have HZ := Hid.intro hZ
          clear hZ
          have hba := (Below.refl w15.heap.size w15).alloc (Nat.le_refl _) (Obj.cells #[.slice az (nodesOf t).length cz] 25)
          replace HY := Hid.intro (HY.out.grown hba)
          replace HQ := Hid.intro (HQ.out.trans (hba.mono HQ.out.size))
          replace HZ := Hid.intro (HZ.out.grown hba)
          replace CY := cellG CY hba
          have CZ := cell_new w15 (.slice az (nodesOf t).length cz) 25
          clear hba
          go_wp2_with fail
          generalize w15.alloc (Obj.cells #[.slice az (nodesOf t).length cz] 25) = w16 at *
          generalize w15.heap.size = bz at *
          refine (wpSelect_any (nodesOf t) _ _ _ _ _ HZ.out HY.out (by omega)).mono ?_
          rintro e w17 ⟨rfl, hb⟩
          replace HY := Hid.intro (HY.out.grown hb)
          replace HQ := Hid.intro (HQ.out.trans (hb.mono HQ.out.size))
          replace HZ := Hid.intro (HZ.out.grown hb)
          replace CY := cellG CY hb
          replace CZ := cellG CZ hb
          clear hb
          go_wp2_with fail
          go_meet
          exact HQ
      case rest =>
        have hb := hcut.out
        clear HY CY HE
        replace HN := Hid.intro (HN.out.grown hb)
        replace HG := Hid.intro (rangeG HG.out hb)
        replace HM := Hid.intro (HM.out.below StrC.holds hb (Nat.le_refl _))
        replace HB := Hid.intro (HB.out.trans (hb.mono HB.out.size))
        replace CX := cellG CX hb
        clear hb hcut HK
        go_wp2_with fail
        refine (implMeets_any ns g cn ms am cm _ HN.out HS.out HM.out (by omega)).mono ?_
        rintro e w20 ⟨rfl, hb⟩
        replace HN := Hid.intro (HN.out.grown hb)
        replace HG := Hid.intro (rangeG HG.out hb)
        replace HM := Hid.intro (HM.out.below StrC.holds hb (Nat.le_refl _))
        replace HB := Hid.intro (HB.out.trans (hb.mono HB.out.size))
        replace CX := cellG CX hb
        clear hb
        obtain ⟨mt, hmt⟩ : ∃ b, mtI ns ms = b := ⟨_, rfl⟩
        rw [hmt]
        have HMT := Hid.intro hmt
        clear hmt
        have HRV : Hid (RevR w20 (w20.alloc (Obj.cells #[] 9)) w20.heap.size 0 []) := ⟨World.ownsRow_made (e := 9) (size := 1) (base := w20.heap.size) w20 #[] 0 (Nat.le_refl _) (Nat.zero_le _) rfl, (Below.refl _ _).alloc (Nat.le_refl _) _⟩
        go_wp2_with fail
        generalize w20.alloc (Obj.cells #[] 9) = w21 at *
        go_loopw [17, 18] (fun v i wr => ∃ (k b c : Nat) (rs : List ByteArray), k ≤ ms.length ∧ rs.length ≤ 10 ∧ i = .int .i64 ((k : Int) - 1) ∧ v = .slice (some ⟨b, 0, none⟩) rs.length c ∧ Hid (rs = (ms.drop k).reverse) ∧ Hid (RevR w20 wr b c rs)) (fun _ i _ => (intOf i + 1).toNat)
        case atStart => exact ⟨ms.length, w20.heap.size, 0, [], Nat.le_refl _, Nat.zero_le _, rfl, rfl, by show _ = _; simp, HRV⟩
        case round =>
          obtain ⟨k, b, c, rs, hk, hrl, rfl, rfl, HRS, HRV⟩ := hrel
          rcases k with _ | j
          · -- all texts are turned
            have hrs : rs = ms.reverse := by rw [HRS.out, List.drop_zero]
            clear HRS
            have HR := Hid.intro (marks_row (o := 0) (by omega) (fun s hs => HMS.out s (by rw [hrs] at hs; exact List.mem_reverse.1 hs)) HRV.out.blk.2 (own_cells HRV.out.O))
            have hb := HRV.out.T
            replace HN := Hid.intro (HN.out.grown hb)
            replace HG := Hid.intro (rangeG HG.out hb)
            replace HM := Hid.intro (HM.out.below StrC.holds hb (Nat.le_refl _))
            replace HB := Hid.intro (HB.out.trans (hb.mono HB.out.size))
            replace CX := cellG CX hb
            clear hb HRV
            have HRE := Hid.intro hrs
            clear hrs
            have him : ((0 : Nat) : Int) - 1 = -1 := rfl
            rw [him]
            clear him
            go_wp2_with fail
            have cS := specMeets_any ns g cn ms am cm wr HN.out HS.out HM.out
            rw [mt_spec (by omega), HMT.out] at cS
            refine (cS).mono ?_
            rintro e w22 ⟨rfl, hb⟩
            replace HN := Hid.intro (HN.out.grown hb)
            replace HG := Hid.intro (rangeG HG.out hb)
            replace HM := Hid.intro (HM.out.below StrC.holds hb (Nat.le_refl _))
            replace HB := Hid.intro (HB.out.trans (hb.mono HB.out.size))
            replace HR := Hid.intro (HR.out.below StrC.holds hb (Nat.le_refl _))
            replace CX := cellG CX hb
            clear hb
            clear cS
            go_wp2_with fail
            have cR := implMeets_any ns g cn rs (some ⟨b, 0, none⟩) c w22 HN.out HS.out HR.out (by omega)
            rw [show mtI ns rs = mt from by rw [HRE.out, mt_rev, HMT.out]] at cR
            refine (cR).mono ?_
            rintro e w23 ⟨rfl, hb⟩
            replace HN := Hid.intro (HN.out.grown hb)
            replace HG := Hid.intro (rangeG HG.out hb)
            replace HM := Hid.intro (HM.out.below StrC.holds hb (Nat.le_refl _))
            replace HB := Hid.intro (HB.out.trans (hb.mono HB.out.size))
            replace HR := Hid.intro (HR.out.below StrC.holds hb (Nat.le_refl _))
            replace CX := cellG CX hb
            clear hb
            clear cR
            clear HR
            by_cases hn0 : ns.length = 0
            · have hnb : ((ns.length : Int) == 0) = true := by rw [hn0]; rfl
              go_wp2_with fail
              go_ret
              exact ⟨rfl, HB.out⟩
            obtain ⟨m, hm⟩ : ∃ m, ns.length = m + 1 := ⟨ns.length - 1, by omega⟩
            obtain ⟨x, hx⟩ : ∃ x, ns[m]? = some x := ⟨ns[m], List.getElem?_eq_getElem (by omega)⟩
            have r0 := (HN.out.2 m x hx).1
            have hnb : ((ns.length : Int) == 0) = false := by rw [beq_eq_false_iff_ne]; omega
            have hmm : ((ns.length : Int) - 1) = (m : Int) := by omega
            have hm1 : m < ns.length := by omega
            clear hx
            have HM0 := Hid.intro hm
            clear hm
            by_cases hx0 : x.kind = 0
            · have hxb : (x.kind == 0) = true := by rw [hx0]; rfl
              go_wp2_with fail
              go_ret
              exact ⟨rfl, HB.out⟩
            have hxb : (x.kind == 0) = false := by rw [beq_eq_false_iff_ne]; exact hx0
            by_cases hs : P.outI ns = ⟨#[]⟩
            · obtain ⟨hsb, hsc⟩ := isE_of hs
              clear hs
              go_wp2_with fail
              go_ret
              exact ⟨rfl, HB.out⟩
            obtain ⟨hsb, hsc⟩ := isE_not hs
            go_upto_region 31 with fail
            have HMb := HM
            have HBb := HB
            clear r0 hxb hx0 hmm hm1 hnb hn0 HM0
            have hba := (Below.refl w23.heap.size w23).alloc (Nat.le_refl _) (Obj.cells #[] 36)
            replace HN := Hid.intro (HN.out.grown hba)
            replace HG := Hid.intro (rangeG HG.out hba)
            replace HM := Hid.intro (HM.out.below StrC.holds hba (Nat.le_refl _))
            replace HB := Hid.intro (HB.out.trans (hba.mono HB.out.size))
            replace CX := cellG CX hba
            clear hba
            have HNN : Hid (∀ (j : Nat) (u : Value), (ndCells ns)[j]? = some u → (w23.alloc (Obj.cells #[] 36)).cell? ((⟨g, 0, none⟩ : Addr).add j) = some u) := by
              intro j u hj
              rw [Addr.add_mid]
              exact HG.out j u hj
            have HNL : Hid ((ndCells ns).length = ns.length * 4) := ndCells_len ns
            have HN1 : Hid (∀ u ∈ ndCells ns, u.oneCell' = true) := ndCells_one ns
            have HOW := Hid.intro (World.ownsRow_made (e := 36) (size := 4) (base := w23.heap.size) w23 #[] 0 (Nat.le_refl _) (Nat.zero_le _) rfl)
            go_wp2_with (first | (at_builtin; refine wpList_append_own_at _ rfl (.tmp 141) (.tmp 143) 23 rfl w23.heap.size 36 i0 _ 4 48 Tryz.underlying23 hi0 hz0 hz1 hz2 rfl (by decide) _ 0 _ rfl HOW.out ⟨g, 0, none⟩ ns.length cn (ndCells ns) rfl HNL.out HNN.out HN1.out (by unfold maxLen; omega) (by omega) (by simp) ?_; intro v8 w24 hown8 hgrow8 hnil8 _; have hv8 : v8 ≠ .slice none 0 0 := (fun e => by have h9 := (hnil8.1 e).1; cases h9); obtain ⟨z8, q8, rfl⟩ := own_slice hown8 hv8; rw [Nat.zero_add, List.nil_append] at hown8; have hb8 : Below w23.heap.size w23 w24 := ((Below.refl _ w23).alloc (Nat.le_refl _) _).grown hgrow8 (by simp) (fun i hi => by cases hi; exact Nat.le_refl _); have hbn : Below w23.heap.size w23 (w24.alloc (Obj.cells #[.int .i64 3, .string ⟨#[]⟩, .string ⟨#[]⟩, .int .i64 1] 36)) := hb8.trans (((Below.refl w24.heap.size w24).alloc (Nat.le_refl _) _).mono hb8.size); have HO8 := Hid.intro (own_at hown8 (((Below.refl w24.heap.size w24).alloc (Nat.le_refl _) (Obj.cells #[.int .i64 3, .string ⟨#[]⟩, .string ⟨#[]⟩, .int .i64 1] 36)).block z8 (hown8.lt z8 rfl).2)); have h8l := hown8.lt z8 rfl; have hsz9 := hbn.size; clear hgrow8 hnil8 hv8 hown8) | (at_builtin; refine wpList_append_own_at _ rfl (.tmp 144) (.tmp 146) 23 rfl w23.heap.size 36 i0 _ 4 48 Tryz.underlying23 hi0 hz0 hz1 hz2 rfl (by decide) _ ns.length _ rfl HO8.out ⟨w24.heap.size, 0, none⟩ 1 1 (ndv (⟨3, ⟨#[]⟩, ⟨#[]⟩, 1⟩ : P.Nd)) rfl rfl (news_nd _ (⟨3, ⟨#[]⟩, ⟨#[]⟩, 1⟩ : P.Nd) _) (ndv_one _) (by unfold maxLen; omega) (by omega) hsz9 ?_; intro v9 w25 hown9 hgrow9 hnil9 _; have hv9 : v9 ≠ .slice none 0 0 := (fun e => by have h9 := (hnil9.1 e).1; cases h9); obtain ⟨z9, q9, rfl⟩ := own_slice hown9 hv9; have hb := hbn.grown hgrow9 hsz9 (fun i hi => by cases hi; exact h8l.1)))
            clear CX HN HG
            obtain ⟨nt, hnt⟩ : ∃ nt, nt = ns ++ [(⟨3, ⟨#[]⟩, ⟨#[]⟩, 1⟩ : P.Nd)] := ⟨_, rfl⟩
            have hlx : nt.length = ns.length + 1 := by rw [hnt]; simp
            have hrow : w25.ownsRow w23.heap.size 36 4 (.slice (some ⟨z9, 0, none⟩) nt.length q9) nt.length (ndCells nt) := by rw [hlx, hnt, ndCells_append]; exact hown9
            have HW := Hid.intro (ndRow_own hrow).nodes
            have HS2 : Hid (Small nt) := ⟨by omega, fun n hn => by rw [hnt] at hn; rcases List.mem_append.1 hn with h | h; exact HS.out.2 n h; rw [List.mem_singleton.1 h]; exact ⟨by decide, by decide⟩⟩
            rw [← hlx]
            have HNT := Hid.intro hnt
            clear hnt hlx hrow hown9 hgrow9 hnil9 hv9 HO8 hsz9 h8l HOW HN1 HNL HNN
            replace HM := Hid.intro (HMb.out.below StrC.holds hb (Nat.le_refl _))
            replace HB := Hid.intro (HBb.out.trans (hb.mono HBb.out.size))
            clear HMb HBb hb hbn hb8
            have hba := (Below.refl w25.heap.size w25).alloc (Nat.le_refl _) (Obj.cells #[.slice (some ⟨z9, 0, none⟩) nt.length q9] 25)
            replace HM := Hid.intro (HM.out.below StrC.holds hba (Nat.le_refl _))
            replace HB := Hid.intro (HB.out.trans (hba.mono HB.out.size))
            replace HW := Hid.intro (HW.out.grown hba)
            have CN := cell_new w25 (.slice (some ⟨z9, 0, none⟩) nt.length q9) 25
            clear hba
            generalize w25.alloc (Obj.cells #[.slice (some ⟨z9, 0, none⟩) nt.length q9] 25) = w26 at *
            generalize w25.heap.size = bn at *
            refine (implPrint_any nt z9 q9 _ HW.out HS2.out).mono ?_
            rintro e w27 ⟨rfl, hb⟩
            replace HM := Hid.intro (HM.out.below StrC.holds hb (Nat.le_refl _))
            replace HB := Hid.intro (HB.out.trans (hb.mono HB.out.size))
            replace HW := Hid.intro (HW.out.grown hb)
            replace CN := cellG CN hb
            clear hb
            by_cases hq : P.outI nt = ⟨#[]⟩
            · obtain ⟨hqb, hqc⟩ := isE_of hq
              clear hq
              go_wp2_with fail
              go_ret
              exact ⟨rfl, HB.out⟩
            have hmn : mtI nt ms = !mt := by rw [HNT.out, mt_not hs ms (by rw [← HNT.out]; exact hq), HMT.out]
            obtain ⟨hqb, hqc⟩ := isE_not hq
            have cN := fun W (h : Nodes0 W z9 nt) (h2 : SliceC StrC 1 0 W am ms) => implMeets_any nt z9 q9 ms am cm W h HS2.out h2 (by omega)
            rw [hmn] at cN
            have HCN := Hid.intro cN
            clear cN hmn
            go_wp2_with fail
            refine (HCN.out _ HW.out HM.out).mono ?_
            rintro e w28 ⟨rfl, hb⟩
            replace HM := Hid.intro (HM.out.below StrC.holds hb (Nat.le_refl _))
            replace HB := Hid.intro (HB.out.trans (hb.mono HB.out.size))
            replace HW := Hid.intro (HW.out.grown hb)
            replace CN := cellG CN hb
            clear hb
            clear HCN
            cases mt with
            | false =>
              go_wp2_with fail
              go_ret
              exact ⟨rfl, HB.out⟩
            | true =>
              go_wp2_with fail
              go_ret
              exact ⟨rfl, HB.out⟩
          · -- one text more
            obtain ⟨s, hs⟩ : ∃ s, ms[j]? = some s := ⟨ms[j], List.getElem?_eq_getElem (by omega)⟩
            have hb := HRV.out.T
            obtain ⟨b1, o1, rfl, _, _, hc1⟩ := (HM.out.below StrC.holds hb (Nat.le_refl _)).at hs
            have c1 : wr.cell? ⟨b1, o1 + j, none⟩ = some (.string s) := by have := hc1.1; simpa using this
            have HDR : Hid (rs ++ [s] = (ms.drop j).reverse) := by show _ = _; rw [drop_rev hs, ← HRS.out]
            have hrl2 : (rs ++ [s]).length ≤ 10 := by rw [HDR.out]; simp; omega
            have hij : ((j + 1 : Nat) : Int) - 1 = (j : Int) := by omega
            rw [hij]
            have hbl := HRV.out.blk
            have hba := (Below.refl wr.heap.size wr).alloc (Nat.le_refl _) (Obj.cells #[.string s] 9)
            have HO := Hid.intro (own_at HRV.out.O (hba.block b hbl.2))
            have hT2 := hb.trans (hba.mono hb.size)
            have hszA := hT2.size
            have hjl : j < ms.length := by omega
            have hj0 : (0 : Int) ≤ (j : Int) := by omega
            clear hba hc1 hs HRS HRV hij HN HG CX HMS
            go_wp2_with (at_builtin; refine wpList_append_own_at _ rfl (.tmp 102) (.tmp 107) 26 rfl w20.heap.size 9 iS _ 1 16 Tryz.underlying26 hiS hs0 hs1 hs2 rfl (by decide) _ rs.length _ rfl HO.out ⟨wr.heap.size, 0, none⟩ 1 1 [.string s] rfl rfl (news_str _ _ _) (oneSt _) (by unfold maxLen; omega) (by omega) hszA ?_; intro v' wn hown hgrow hnil _; have hv : v' ≠ .slice none 0 0 := (fun e => by have h9 := (hnil.1 e).1; cases h9); obtain ⟨b2, c2, rfl⟩ := own_slice hown hv; have HRN := Hid.intro (RevR.app hT2 hbl.1 hown hgrow rfl); clear hown hgrow hnil hv hszA hT2)
            have hlx : (rs ++ [s]).length = rs.length + 1 := by simp
            rw [← hlx]
            clear hlx
            go_roundw
            case rel => exact ⟨j, b2, c2, rs ++ [s], by omega, hrl2, by go_num, rfl, HDR, HRN⟩
            case measure => simp [intOf]

end Go.Proofs.YthjicahpfhjfdaaGreatDoor
