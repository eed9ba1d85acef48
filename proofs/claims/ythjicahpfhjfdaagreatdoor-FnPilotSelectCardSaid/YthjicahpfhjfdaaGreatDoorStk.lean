/-
  Walks: the specification's tokens.
-/
import Derived.Test.YthjicahpfhjfdaaGreatDoorJ6
import Derived.Maps.AppendAt
namespace Go.Proofs.YthjicahpfhjfdaaGreatDoor
open Go.RowKit

/-- a byte that is a sign -/
def signB (c : UInt8) : Bool := decide (c.toNat = 124 ∨ c.toNat = 38 ∨ c.toNat = 33 ∨ c.toNat = 40 ∨ c.toNat = 41 ∨ c.toNat = 61)

/-- a token that is one -/
def okTok (l : List UInt8) : Bool := (!l.isEmpty && l.all P.letter) || (match l with | [c] => signB c | _ => false)

theorem okTok_run {l : List UInt8} (hne : l ≠ []) (h : ∀ c ∈ l, P.letter c = true) : okTok l = true := by
  unfold okTok
  have h1 : l.all P.letter = true := List.all_eq_true.2 h
  have h2 : l.isEmpty = false := by cases l with | nil => exact absurd rfl hne | cons a b => rfl
  rw [h1, h2]; rfl

theorem okTok_one {c : UInt8} (h : P.letter c = false) : okTok [c] = signB c := by
  unfold okTok
  simp [h]

theorem cut_one {t : ByteArray} {k : Nat} (h : k < t.size) : cut t k (k + 1) = [t[k]] := by
  rw [cut_snoc (Nat.le_refl _) h, cut_nil]; rfl

theorem cut_ne {t : ByteArray} {a b : Nat} (h : a < b) (hb : b ≤ t.size) : cut t a b ≠ [] := by
  intro e
  have : (cut t a b).length = b - a := by
    unfold cut
    rw [List.length_take, List.length_drop]
    have : t.data.toList.length = t.size := rfl
    omega
  rw [e] at this
  simp at this
  omega

theorem news_one (w : World) (x : Value) (T : TypeId) : ∀ j u, [x][j]? = some u → (w.alloc (.cells #[x] T)).cell? ((⟨w.heap.size, 0, none⟩ : Addr).add j) = some u := by
  intro j u hj
  match j, hj with
  | 0, hj => simp at hj; subst hj; simp [Addr.add]

theorem one_str (s : ByteArray) : ∀ u ∈ [Value.string s], u.oneCell' = true := by
  intro u hu
  simp at hu
  subst hu
  rfl

theorem row_some {w : World} {B n : Nat} {e : TypeId} {size : Nat} {v : Value} {xs : List Value} (h : w.ownsRow B e size v (n + 1) xs) : ∃ g cap, v = .slice (some ⟨g, 0, none⟩) (n + 1) cap := by
  rcases h.2 with h' | ⟨g, cap, cur, h1, _⟩
  · exact absurd h'.2 (by omega)
  · exact ⟨g, cap, h1⟩

/-- tokens as cells -/
def strs (D : List (List UInt8)) : List Value := D.map fun l => .string (P.bts l)

theorem info_str1 : (Tryz.prog.info? 9).map (fun i => (i.zero, i.size, i.bytes)) = some (some (.string ⟨#[]⟩), 1, 16) := by kernel_rfl

set_option maxHeartbeats 4000000 in
set_option maxRecDepth 100000 in
theorem tokens_any (t : ByteArray) (w : World) (ht : t.size ≤ 200) :
    Calls Tryz.prog 27 #[.string t] w fun e w' => ∃ v, e = .returned (.tuple #[v, .bool ((toksAt t 0).all okTok)]) ∧ ((toksAt t 0).all okTok = true → ∃ g c, v = .slice (some ⟨g, 0, none⟩) (toksAt t 0).length c ∧ w'.ownsRow w.heap.size 9 1 v (toksAt t 0).length (strs (toksAt t 0))) ∧ Below w.heap.size w w' := by
  obtain ⟨i0, hi0, hz0, hz1, hz2⟩ := info_parts info_str1
  go_enter Tryz.func27, Tryz.ntmps27
  go_wp2_with fail
  go_loopw [4, 5] (fun v i wr => ∃ (k g c : Nat) (D : List (List UInt8)), k ≤ t.size ∧ i = .int .i64 k ∧ v = .slice (some ⟨g, 0, none⟩) D.length c ∧ Hid (toksAt t 0 = D ++ toksAt t k) ∧ Hid (D.all okTok = true) ∧ D.length ≤ k ∧ Hid (wr.ownsRow w.heap.size 9 1 (.slice (some ⟨g, 0, none⟩) D.length c) D.length (strs D)) ∧ Hid (Below w.heap.size w wr)) (fun _ i _ => t.size - (intOf i).toNat)
  case atStart => exact ⟨0, w.heap.size, 0, [], Nat.zero_le _, rfl, rfl, rfl, rfl, Nat.le_refl _, World.ownsRow_made (base := w.heap.size) (e := 9) (size := 1) w #[] 0 (Nat.le_refl _) (Nat.zero_le _) rfl, (Below.refl _ _).alloc (Nat.le_refl _) _⟩
  case round =>
    obtain ⟨k, g, c, D, hk, rfl, rfl, HD, HA, hDk, HO, HB⟩ := hrel
    by_cases hlt : k < t.size
    · have i0' : (0 : Int) ≤ (k : Int) := by omega
      have i1' : (k : Int) < (t.size : Int) := by omega
      by_cases hb : t[k].toNat = 32
      · have HD2 : Hid (toksAt t 0 = D ++ toksAt t (k + 1)) := by rw [HD.out, toksAt_blank hlt (UInt8.toNat_inj.1 hb)]; rfl
        go_wp2_with fail
        go_roundw
        case rel => exact ⟨k + 1, g, c, D, by omega, by go_num, rfl, HD2, HA, by omega, HO, HB⟩
        case measure => simp [intOf]; omega
      · have HS32 : Hid (t[k] ≠ 32) := fun e => hb (by rw [e]; rfl)
        have hsz := HB.out.size
        have hbq : ((t[k].toNat : Int) == 32) = false := by simp; omega
        obtain ⟨wo, hwo⟩ : ∃ wo, wo = wr := ⟨_, rfl⟩
        subst hwo
        go_wp2_with fail
        go_loopw [6] (fun n wx => ∃ m, k ≤ m ∧ m ≤ t.size ∧ n = .int .i64 m ∧ Hid (∀ c ∈ cut t k m, P.letter c = true) ∧ wx = wo) (fun n _ => t.size - (intOf n).toNat)
        case atStart => exact ⟨k, Nat.le_refl _, by omega, rfl, (by rw [cut_nil]; exact (fun c h => by simp at h)), rfl⟩
        case round =>
          obtain ⟨m, m1, m2, rfl, HC, hwx⟩ := hrel
          have hwx' := hwx.symm
          subst hwx'
          by_cases hml : m < t.size
          · have j0 : (0 : Int) ≤ (m : Int) := by omega
            have j1 : (m : Int) < (t.size : Int) := by omega
            cases hL : P.letter t[m] with
            | true =>
              have HL : Hid (P.letter t[m] = true) := hL
              have HC2 : Hid (∀ c ∈ cut t k (m + 1), P.letter c = true) := by
                show ∀ c ∈ _, _
                rw [cut_snoc m1 hml]
                intro c hc
                rcases List.mem_append.1 hc with hc | hc
                · exact HC.out c hc
                · simp at hc; rw [hc]; exact hL
              clear hL
              go_wp2_with (go_at_call 46; refine (letter_any _ _).mono ?_; rintro e w' ⟨rfl, hww⟩; have hww' := hww.symm; subst hww'; rw [HL.out])
              go_roundw
              case rel => exact ⟨m + 1, by omega, by omega, by go_num, HC2, trivial⟩
              case measure => simp [intOf]; omega
            | false =>
              have HL : Hid (P.letter t[m] = false) := hL
              have HST : Hid (∀ hk : m < t.size, P.letter t[m] = false) := fun _ => hL
              clear hL
              by_cases hkm : m = k
              · subst hkm
                have HTK : Hid (toksAt t m = [t[m]] :: toksAt t (m + 1)) := toksAt_sign hml HS32.out HL.out
                have HOK : Hid (okTok [t[m]] = signB t[m]) := okTok_one HL.out
                cases hsg : signB t[m] with
                | true =>
                  have hsg' : t[m].toNat = 124 ∨ t[m].toNat = 38 ∨ t[m].toNat = 33 ∨ t[m].toNat = 40 ∨ t[m].toNat = 41 ∨ t[m].toNat = 61 := of_decide_eq_true hsg
                  have HD2 : Hid (toksAt t 0 = (D ++ [cut t m (m + 1)]) ++ toksAt t (m + 1)) := by show _ = _; rw [HD.out, HTK.out, cut_one hml]; simp
                  have HA2 : Hid ((D ++ [cut t m (m + 1)]).all okTok = true) := by show _ = _; rw [List.all_append, HA.out, cut_one hml]; simp [HOK.out, hsg]
                  clear hsg HTK HOK HD HA hb
                  have HSG : Hid (t[m].toNat = 124 ∨ t[m].toNat = 38 ∨ t[m].toNat = 33 ∨ t[m].toNat = 40 ∨ t[m].toNat = 41 ∨ t[m].toNat = 61) := hsg'
                  clear hsg'
                  go_upto_region 10 with (go_at_call 46; refine (letter_any _ _).mono ?_; rintro e w' ⟨rfl, hww⟩; have hww' := hww.symm; subst hww'; rw [HL.out])
                  go_cut [67] (fun b wy => b = .bool false ∧ wy = wo)
                  case first =>
                    rcases HSG.out with hc | hc | hc | hc | hc | hc
                    all_goals
                      go_wp2_with fail
                      go_meet
                      exact ⟨rfl, rfl⟩
                  case rest =>
                    obtain ⟨rfl, hwc⟩ := hcut
                    have hwc' := hwc.symm
                    subst hwc'
                    go_upto_region 13 with fail
                    have hnm : ((m : Int) + 1) = ((m + 1 : Nat) : Int) := by omega
                    have hn2 : m < m + 1 ∧ m + 1 ≤ t.size := by omega
                    rw [hnm]
                    clear hnm
                    generalize m + 1 = n at *
                    obtain ⟨hn3, hn4⟩ := hn2
                    have e1 : (0 : Int) ≤ (m : Int) := by omega
                    have e2 : (m : Int) ≤ (n : Int) := by omega
                    have e3 : (n : Int) ≤ (t.size : Int) := by omega
                    go_wp2_with (at_builtin; refine wpList_append_own_at _ rfl (.tmp 71) (.tmp 76) 26 rfl w.heap.size 9 i0 (.string ⟨#[]⟩) 1 16 Tryz.underlying26 hi0 hz0 hz1 hz2 rfl (by decide) _ D.length (strs D) rfl (HO.out.alloc _) ⟨wo.heap.size, 0, none⟩ 1 1 [.string (t.extract m n)] rfl rfl (news_one _ _ _) (one_str _) (by unfold maxLen; omega) (by omega) (by simp; omega) ?_; intro v' w7 hown7 hgrow7 _ _; obtain ⟨g2, c2, rfl⟩ := row_some hown7)
                    have HO2 : Hid (w7.ownsRow w.heap.size 9 1 (.slice (some ⟨g2, 0, none⟩) (D ++ [cut t m n]).length c2) (D ++ [cut t m n]).length (strs (D ++ [cut t m n]))) := by
                      have h7 := hown7
                      rw [cut_bts] at h7
                      show World.ownsRow _ _ _ _ _ _ _
                      simpa [strs] using h7
                    have HB2 : Hid (Below w.heap.size w w7) := (HB.out.alloc hsz _).grown hgrow7 (by simp; omega) (fun j hj => by cases hj; exact (HO.out.lt g rfl).1)
                    clear hown7 hgrow7
                    go_wp2_with fail
                    go_roundw
                    case rel => exact ⟨n, g2, c2, D ++ [cut t m n], by omega, by go_num, by simp, HD2, HA2, by simp; omega, HO2, HB2⟩
                    case measure => simp [intOf]; omega
                | false =>
                  have hsg' : ¬ (t[m].toNat = 124 ∨ t[m].toNat = 38 ∨ t[m].toNat = 33 ∨ t[m].toNat = 40 ∨ t[m].toNat = 41 ∨ t[m].toNat = 61) := of_decide_eq_false hsg
                  have HF : Hid ((toksAt t 0).all okTok = false) := by show _ = _; rw [HD.out, List.all_append, HTK.out, List.all_cons, HOK.out, hsg]; simp
                  have c1 : ¬ (t[m].toNat : Int) = 124 := by omega
                  have c2 : ¬ (t[m].toNat : Int) = 38 := by omega
                  have c3 : ¬ (t[m].toNat : Int) = 33 := by omega
                  have c4 : ¬ (t[m].toNat : Int) = 40 := by omega
                  have c5 : ¬ (t[m].toNat : Int) = 41 := by omega
                  have c6 : ¬ (t[m].toNat : Int) = 61 := by omega
                  clear hsg hsg' HTK HOK HD HA
                  go_upto_region 10 with (go_at_call 46; refine (letter_any _ _).mono ?_; rintro e w' ⟨rfl, hww⟩; have hww' := hww.symm; subst hww'; rw [HL.out])
                  go_cut [67] (fun b wy => b = .bool true ∧ wy = wo)
                  case first =>
                    go_wp2_with fail
                    all_goals go_meet
                    refine ⟨?_, rfl⟩
                    simp
                    omega
                  case rest =>
                  obtain ⟨rfl, hwc⟩ := hcut
                  have hwc' := hwc.symm
                  subst hwc'
                  go_wp2_with fail
                  go_ret2
                  refine ⟨_, (by rw [HF.out]; rfl), ?_, HB.out⟩
                  intro h
                  exfalso
                  first | (rw [HF.out] at h; cases h) | (rw [← List.all_eq_true, HF.out] at h; cases h)
              · have hkm' : ¬ (m : Int) = (k : Int) := by omega
                have HTK : Hid (toksAt t k = cut t k m :: toksAt t m) := nm_run (by omega) m2 HC.out HST.out
                have HD2 : Hid (toksAt t 0 = (D ++ [cut t k m]) ++ toksAt t m) := by show _ = _; rw [HD.out, HTK.out]; simp
                have HA2 : Hid ((D ++ [cut t k m]).all okTok = true) := by show _ = _; rw [List.all_append, HA.out]; simp [okTok_run (cut_ne (by omega) m2) HC.out]
                clear HTK HD HA hb
                go_wp2_with (first | (go_at_call 46; refine (letter_any _ _).mono ?_; rintro e w' ⟨rfl, hww⟩; have hww' := hww.symm; subst hww'; rw [HL.out]) | (at_builtin; refine wpList_append_own_at _ rfl (.tmp 71) (.tmp 76) 26 rfl w.heap.size 9 i0 (.string ⟨#[]⟩) 1 16 Tryz.underlying26 hi0 hz0 hz1 hz2 rfl (by decide) _ D.length (strs D) rfl (HO.out.alloc _) ⟨wo.heap.size, 0, none⟩ 1 1 [.string (t.extract k m)] rfl rfl (news_one _ _ _) (one_str _) (by unfold maxLen; omega) (by omega) (by simp; omega) ?_; intro v' w7 hown7 hgrow7 _ _; obtain ⟨g2, c2, rfl⟩ := row_some hown7))
                have HO2 : Hid (w7.ownsRow w.heap.size 9 1 (.slice (some ⟨g2, 0, none⟩) (D ++ [cut t k m]).length c2) (D ++ [cut t k m]).length (strs (D ++ [cut t k m]))) := by
                  have h7 := hown7
                  rw [cut_bts] at h7
                  show World.ownsRow _ _ _ _ _ _ _
                  simpa [strs] using h7
                have HB2 : Hid (Below w.heap.size w w7) := (HB.out.alloc hsz _).grown hgrow7 (by simp; omega) (fun j hj => by cases hj; exact (HO.out.lt g rfl).1)
                clear hown7 hgrow7
                go_wp2_with fail
                go_roundw
                case rel => exact ⟨m, g2, c2, D ++ [cut t k m], by omega, by go_num, by simp, HD2, HA2, by simp; omega, HO2, HB2⟩
                case measure => simp [intOf]; omega
          · have hme : m = t.size := by omega
            have HST : Hid (∀ hk : m < t.size, P.letter t[m] = false) := fun h => absurd h hml
            have hkm' : ¬ (m : Int) = (k : Int) := by omega
            have HTK : Hid (toksAt t k = cut t k m :: toksAt t m) := nm_run (by omega) m2 HC.out HST.out
            have HD2 : Hid (toksAt t 0 = (D ++ [cut t k m]) ++ toksAt t m) := by show _ = _; rw [HD.out, HTK.out]; simp
            have HA2 : Hid ((D ++ [cut t k m]).all okTok = true) := by show _ = _; rw [List.all_append, HA.out]; simp [okTok_run (cut_ne (by omega) m2) HC.out]
            clear HTK HD HA hb hme HST
            have hml' : ¬ (m : Int) < (t.size : Int) := by omega
            clear hml
            go_wp2_with (at_builtin; refine wpList_append_own_at _ rfl (.tmp 71) (.tmp 76) 26 rfl w.heap.size 9 i0 (.string ⟨#[]⟩) 1 16 Tryz.underlying26 hi0 hz0 hz1 hz2 rfl (by decide) _ D.length (strs D) rfl (HO.out.alloc _) ⟨wo.heap.size, 0, none⟩ 1 1 [.string (t.extract k m)] rfl rfl (news_one _ _ _) (one_str _) (by unfold maxLen; omega) (by omega) (by simp; omega) ?_; intro v' w7 hown7 hgrow7 _ _; obtain ⟨g2, c2, rfl⟩ := row_some hown7)
            have HO2 : Hid (w7.ownsRow w.heap.size 9 1 (.slice (some ⟨g2, 0, none⟩) (D ++ [cut t k m]).length c2) (D ++ [cut t k m]).length (strs (D ++ [cut t k m]))) := by
              have h7 := hown7
              rw [cut_bts] at h7
              show World.ownsRow _ _ _ _ _ _ _
              simpa [strs] using h7
            have HB2 : Hid (Below w.heap.size w w7) := (HB.out.alloc hsz _).grown hgrow7 (by simp; omega) (fun j hj => by cases hj; exact (HO.out.lt g rfl).1)
            clear hown7 hgrow7
            go_wp2_with fail
            go_roundw
            case rel => exact ⟨m, g2, c2, D ++ [cut t k m], by omega, by go_num, by simp, HD2, HA2, by simp; omega, HO2, HB2⟩
            case measure => simp [intOf]; omega
    · have hke : k = t.size := by omega
      have HE : Hid (toksAt t 0 = D) := by rw [HD.out, toksAt_end (by omega), List.append_nil]; rfl
      go_wp2_with fail
      go_ret2
      exact ⟨_, by rw [HE.out, HA.out]; rfl, fun _ => ⟨g, c, by rw [HE.out]; rfl, by rw [HE.out]; exact HO.out⟩, HB.out⟩

end Go.Proofs.YthjicahpfhjfdaaGreatDoor
