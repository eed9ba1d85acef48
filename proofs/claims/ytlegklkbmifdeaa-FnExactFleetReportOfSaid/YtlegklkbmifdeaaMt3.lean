/-
  Checks in a list, asked in turn; a want by the program. Made by mkmt3.py.
-/
import Derived.Test.YtlegklkbmifdeaaMt2
import Derived.Deep.RegionHeld3
import Derived.Shelf.Abstract
namespace Go.Proofs.Ytlegklkbmifdeaa
open Go.RowKit

theorem range_drew {w : World} {g o : Nat} {l : List Value} (h : w.rangeAt g o l) : w.drew.rangeAt g o l := by
  intro j v hj
  have := h j v hj
  simpa using this

theorem range_belowV {w w' : World} {g o B : Nat} {l : List Value} (h : w.rangeAt g o l) (hb : Below B w w') (hB : g < B) : w'.rangeAt g o l := by
  intro j v hj
  rw [hb.cell (p := ⟨g, _, none⟩) hB]
  exact h j v hj

/-- all hold; a check: its function, whether it holds -/
def allR (rs : List (Nat × Bool)) : Bool := rs.all (·.2)

theorem allR_no {rs : List (Nat × Bool)} {k : Nat} {r : Nat × Bool} (h : rs[k]? = some r) (hr : r.2 = false) : allR rs = false := by
  unfold allR
  rw [List.all_eq_false]
  exact ⟨r, List.mem_of_getElem? h, by simp [hr]⟩

theorem allR_yes {rs : List (Nat × Bool)} (h : ∀ (j : Nat) q, j < rs.length → rs[j]? = some q → q.2 = true) : allR rs = true := by
  unfold allR
  rw [List.all_eq_true]
  intro r hr
  obtain ⟨j, hj, e⟩ := List.getElem_of_mem hr
  exact h j r hj (by rw [List.getElem?_eq_getElem hj, e])

/-- the cells of a list of checks -/
def ChkIn (g : Nat) (rs : List (Nat × Bool)) (w : World) : Prop := ∀ (k : Nat) r, rs[k]? = some r → w.cell? ⟨g, k, none⟩ = some (.func (.func r.1) #[] #[])

set_option maxHeartbeats 2000000 in
set_option maxRecDepth 100000 in
theorem allW_any (x : Wnt) (rs : List (Nat × Bool)) (g cap : Nat) (w : World) (hrl : rs.length ≤ 8)
    (hsay : ∀ (k : Nat) r, rs[k]? = some r → ∀ v, w.heap.size ≤ v.heap.size → Calls Try.prog r.1 #[.agg #[.string x.copy, .int .i64 x.version, .string x.hold, .int .i64 x.pull, .int .i64 x.start, .int .i64 x.dies, .int .i64 x.grace]] v fun e w' => e = .returned (.bool r.2) ∧ Below v.heap.size v w') (heg : ∀ (k : Nat) r, rs[k]? = some r → ∀ args w, (callFunc r.1 args).run Try.prog w = .ok (.enter r.1 args) w)
    (hR : ChkIn g rs w) (hg : g < w.heap.size) :
    Calls Try.prog 96 #[.slice (some ⟨g, 0, none⟩) rs.length cap, .agg #[.string x.copy, .int .i64 x.version, .string x.hold, .int .i64 x.pull, .int .i64 x.start, .int .i64 x.dies, .int .i64 x.grace]] w fun e w' => e = .returned (.bool (allR rs)) ∧ Below w.heap.size w w' := by
  have HR := Hid.intro hR
  have HSAY := Hid.intro hsay
  have HEG := Hid.intro heg
  have HX0 : Hid (Blk w.heap.size #[.string x.copy, .int .i64 x.version, .string x.hold, .int .i64 x.pull, .int .i64 x.start, .int .i64 x.dies, .int .i64 x.grace] 48 (w.alloc (.cells #[.string x.copy, .int .i64 x.version, .string x.hold, .int .i64 x.pull, .int .i64 x.start, .int .i64 x.dies, .int .i64 x.grace] 48))) := Blk.alloc _ _ _
  have hb0 : Below w.heap.size w (w.alloc (Obj.cells #[.string x.copy, .int .i64 x.version, .string x.hold, .int .i64 x.pull, .int .i64 x.start, .int .i64 x.dies, .int .i64 x.grace] 48)) := (Below.refl _ w).alloc (Nat.le_refl _) _
  clear hR hsay heg
  go_enter Try.func96, Try.ntmps96
  go_wp2_with fail
  generalize w.alloc (Obj.cells #[.string x.copy, .int .i64 x.version, .string x.hold, .int .i64 x.pull, .int .i64 x.start, .int .i64 x.dies, .int .i64 x.grace] 48) = w0 at *
  go_loopw [9] (fun i wr => ∃ k : Nat, k ≤ rs.length ∧ i = .int .i64 k ∧ Hid (∀ (j : Nat) q, j < k → rs[j]? = some q → q.2 = true) ∧ Hid (Blk w.heap.size #[.string x.copy, .int .i64 x.version, .string x.hold, .int .i64 x.pull, .int .i64 x.start, .int .i64 x.dies, .int .i64 x.grace] 48 wr) ∧ Below w.heap.size w wr) (fun i _ => rs.length - (intOf i).toNat)
  case atStart => exact ⟨0, Nat.zero_le _, rfl, fun j q h => by omega, HX0, hb0⟩
  case round =>
    clear HX0 hb0
    obtain ⟨k, hk, rfl, hN, hX, hB⟩ := hrel
    by_cases hlt : k < rs.length
    · obtain ⟨r, hr⟩ : ∃ r, rs[k]? = some r := ⟨rs[k], List.getElem?_eq_getElem hlt⟩
      have c0 : wr.cell? ⟨g, k, none⟩ = some (.func (.func r.1) #[] #[]) := (hB.cell (p := ⟨g, k, none⟩) hg).trans (HR.out k r hr)
      have HSK := Hid.intro (HSAY.out k r hr)
      have heg := HEG.out k r hr
      have HRR := Hid.intro hr
      obtain ⟨fid, tr⟩ := r
      simp only at c0 HSK heg
      clear hr
      go_wp2_with (first | (refine wpList_load_mid rfl 48 _ rfl w.heap.size 0 (by first | rfl | (simp [go_sem]; done)) [.string x.copy, .int .i64 x.version, .string x.hold, .int .i64 x.pull, .int .i64 x.start, .int .i64 x.dies, .int .i64 x.grace] _ hX.out.rangeA Try.underlying48 rfl isz_Wnt ?_))
      refine (HSK.out wr hB.size).mono ?_
      rintro e w5 ⟨rfl, hb5⟩
      have HX5 := Hid.intro (hX.out.below hb5 hX.out.lt)
      have hB5 := hB.trans (hb5.mono hB.size)
      clear hb5 heg HSK c0 hX hB
      cases tr with
      | false =>
        have HE := Hid.intro (allR_no HRR.out rfl)
        go_wp2_with fail
        go_ret
        exact ⟨ret_bool HE.out.symm, hB5⟩
      | true =>
        have HN2 : Hid (∀ (j : Nat) q, j < k + 1 → rs[j]? = some q → q.2 = true) := fun j q hj hq => by
          by_cases e : j = k
          · subst e
            have := HRR.out.symm.trans hq
            cases this
            rfl
          · exact hN.out j q (by omega) hq
        go_wp2_with fail
        go_roundw
        case rel => exact ⟨k + 1, by omega, by go_num, HN2, HX5, hB5⟩
        case measure => simp [intOf]; omega
    · have hke : k = rs.length := by omega
      subst hke
      have HE := Hid.intro (allR_yes hN.out)
      go_wp2_with fail
      go_ret
      exact ⟨ret_bool HE.out.symm, hB⟩

/-- the checks of a want -/
def wnR (x : Wnt) : List (Nat × Bool) := [(99, nmB x.copy), (100, inR x.version 1 1000000), (101, (x.hold.toList == [] || hdB x.hold)), (102, tkB x)]
theorem wnR_all (x : Wnt) : allR (wnR x) = wnB x := by
  rw [wnB_parts]
  simp [allR, wnR]
theorem wnR_says (x : Wnt) (z0 : x.copy.size ≤ maxLen) (z2 : x.hold.size ≤ maxLen) : ∀ (k : Nat) r, (wnR x)[k]? = some r → ∀ v, Calls Try.prog r.1 #[.agg #[.string x.copy, .int .i64 x.version, .string x.hold, .int .i64 x.pull, .int .i64 x.start, .int .i64 x.dies, .int .i64 x.grace]] v fun e w' => e = .returned (.bool r.2) ∧ Below v.heap.size v w' := by
  intro k r hk
  have h := List.mem_of_getElem? hk
  simp only [wnR, List.mem_cons, List.not_mem_nil, or_false] at h
  rcases h with rfl | rfl | rfl | rfl
  · exact fun v => mcopyOk_any x v z0
  · exact fun v => mversionOk_any x v
  · exact fun v => mholdOk_any x v z2
  · exact fun v => mticksOk_any x v
theorem wnR_enters (x : Wnt) : ∀ (k : Nat) r, (wnR x)[k]? = some r → ∀ args w, (callFunc r.1 args).run Try.prog w = .ok (.enter r.1 args) w := by
  intro k r hk
  have h := List.mem_of_getElem? hk
  simp only [wnR, List.mem_cons, List.not_mem_nil, or_false] at h
  rcases h with rfl | rfl | rfl | rfl
  · exact enters_of Try.func99 (by kernel_rfl) rfl
  · exact enters_of Try.func100 (by kernel_rfl) rfl
  · exact enters_of Try.func101 (by kernel_rfl) rfl
  · exact enters_of Try.func102 (by kernel_rfl) rfl
abbrev wnV : List Value := [.func (.func 99) #[] #[], .func (.func 100) #[] #[], .func (.func 101) #[] #[], .func (.func 102) #[] #[]]
theorem wnR_in {g : Nat} {w : World} (x : Wnt) (h : w.rangeAt g 0 wnV) : ChkIn g (wnR x) w := by
  intro k r hk
  have hk8 : k < 4 := (List.getElem?_eq_some_iff.1 hk).1
  have hc : k = 0 ∨ k = 1 ∨ k = 2 ∨ k = 3 := by omega
  rcases hc with rfl | rfl | rfl | rfl
  · cases hk; simpa using h 0 _ rfl
  · cases hk; simpa using h 1 _ rfl
  · cases hk; simpa using h 2 _ rfl
  · cases hk; simpa using h 3 _ rfl
set_option maxHeartbeats 1000000 in
set_option maxRecDepth 100000 in
theorem wantChecks_any (w : World) :
    Calls Try.prog 97 #[] w fun e w' => e = .returned (.slice (some ⟨w.heap.size, 0, none⟩) 4 4) ∧ w'.rangeAt w.heap.size 0 wnV ∧ w.heap.size < w'.heap.size ∧ Below w.heap.size w w' := by
  go_enter Try.func97, Try.ntmps97
  go_wp2_with fail
  go_ret
  refine ⟨rfl, ?_, ?_, ?_⟩
  · exact range_cons (by simp) (range_cons (by simp) (range_cons (by simp) (range_cons (by simp) (range_nil _ _ _))))
  · simp
  · go_grown
set_option maxHeartbeats 2000000 in
set_option maxRecDepth 100000 in
theorem mwantOk_any (x : Wnt) (w : World) (z0 : x.copy.size ≤ maxLen) (z2 : x.hold.size ≤ maxLen) :
    Calls Try.prog 88 #[.agg #[.string x.copy, .int .i64 x.version, .string x.hold, .int .i64 x.pull, .int .i64 x.start, .int .i64 x.dies, .int .i64 x.grace]] w fun e w' => e = .returned (.bool (wnB x)) ∧ Below w.heap.size w w' := by
  have HX0 : Hid (Blk w.heap.size #[.string x.copy, .int .i64 x.version, .string x.hold, .int .i64 x.pull, .int .i64 x.start, .int .i64 x.dies, .int .i64 x.grace] 48 (w.alloc (.cells #[.string x.copy, .int .i64 x.version, .string x.hold, .int .i64 x.pull, .int .i64 x.start, .int .i64 x.dies, .int .i64 x.grace] 48))) := Blk.alloc _ _ _
  have hb0 : Below w.heap.size w (w.alloc (Obj.cells #[.string x.copy, .int .i64 x.version, .string x.hold, .int .i64 x.pull, .int .i64 x.start, .int .i64 x.dies, .int .i64 x.grace] 48)) := (Below.refl _ w).alloc (Nat.le_refl _) _
  go_enter Try.func88, Try.ntmps88
  go_upto_region 1 with fail
  generalize w.alloc (Obj.cells #[.string x.copy, .int .i64 x.version, .string x.hold, .int .i64 x.pull, .int .i64 x.start, .int .i64 x.dies, .int .i64 x.grace] 48) = w0 at *
  refine wp_region_held_drew (S := fun wy => wy.rangeAt w.heap.size 0 [.string x.copy, .int .i64 x.version, .string x.hold, .int .i64 x.pull, .int .i64 x.start, .int .i64 x.dies, .int .i64 x.grace]) (by kernel_rfl) (range_drew HX0.out.rangeA) (fun hS => ?_)
  refine wpAnyH_take (i := 1) (oi := { dst := some 4, op := _, type := _, pos := _, after := _, guard := none }) (v := .agg #[.string x.copy, .int .i64 x.version, .string x.hold, .int .i64 x.pull, .int .i64 x.start, .int .i64 x.dies, .int .i64 x.grace]) rfl (by kernel_rfl) (by kernel_rfl) (by kernel_rfl) (fun _ _ _ h => h) (yieldsIf_load_mid rfl 48 (.tmp 1) rfl w.heap.size 0 rfl [.string x.copy, .int .i64 x.version, .string x.hold, .int .i64 x.pull, .int .i64 x.start, .int .i64 x.dies, .int .i64 x.grace] _ (fun _ h => h) Try.underlying48 rfl isz_Wnt) hS ?_
  simp only [Act.put, List.setIfInBounds_toArray, List.set_cons_zero, List.set_cons_succ]
  refine wpAnyH_ready (rs := [0]) (by kernel_rfl) (by simp) (AllReadyH.cons (o := { dst := some 3, op := _, type := _, pos := _, after := _, guard := none }) rfl (fun K hK => ?_) AllReadyH.nil)
  go_simp
  refine (wantChecks_any _).mono ?_
  rintro e w3 ⟨rfl, hr3, hg3, hb3⟩
  have hd3 : Below w0.heap.size w0 w3 := (Below.refl _ w0).drew.trans hb3
  have hB3 : Hid (Below w.heap.size w w3) := hb0.trans (hd3.mono hb0.size)
  refine hK.out _ _ (range_belowV hS hb3 HX0.out.lt) (fun hS => ?_)
  clear hK K
  refine wpAnyH_ready (rs := [2]) (by kernel_rfl) (by simp) (AllReadyH.cons (o := { dst := some 5, op := _, type := _, pos := _, after := _, guard := none }) rfl (fun K hK => ?_) AllReadyH.nil)
  go_simp
  refine (allW_any x (wnR x) _ 4 w3 (by simp [wnR]) (fun k r h v _ => wnR_says x z0 z2 k r h v) (wnR_enters x) (wnR_in x hr3) hg3).mono ?_
  rintro e w4 ⟨rfl, hb4⟩
  have hB4 : Hid (Below w.heap.size w w4) := hB3.out.trans (hb4.mono hB3.out.size)
  rw [wnR_all]
  refine hK.out _ _ (range_belowV hS hb4 (Nat.lt_of_lt_of_le HX0.out.lt hd3.size)) (fun hS => ?_)
  clear hK K
  refine wpAnyH_take (i := 3) (oi := { dst := some 2, op := _, type := _, pos := _, after := _, guard := none }) (v := .bool (wnB x)) rfl (by kernel_rfl) (by kernel_rfl) (by kernel_rfl) (fun _ _ _ h => h) (Or.inl ⟨by rfl, ?_⟩) hS ?_
  · intro wy hy
    clear hy
    go_simp
  simp only [Act.put, List.setIfInBounds_toArray, List.set_cons_zero, List.set_cons_succ]
  refine wpAnyH_done (by kernel_rfl) ?_ _
  clear hS hb3 hb4 hd3 hb0 hr3 hg3
  go_wp2_with fail
  go_ret
  exact ⟨rfl, hB4.out⟩

end Go.Proofs.Ytlegklkbmifdeaa
