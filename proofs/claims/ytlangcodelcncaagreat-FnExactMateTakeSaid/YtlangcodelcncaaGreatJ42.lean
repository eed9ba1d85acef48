import Derived.Test.YtlangcodelcncaaGreatTkp
import Derived.Test.YtlangcodelcncaaGreatAv2
import Derived.Test.YtlangcodelcncaaGreatLcg
import Derived.Test.YtlangcodelcncaaGreatTk5
namespace Go.Proofs.YtlangcodelcncaaGreat
open Go.RowKit

theorem filtA_step {P : Aks → Bool} {xs : List Aks} {k : Nat} {x : Aks} (h : xs[k]? = some x) : (xs.take (k + 1)).filter P = (xs.take k).filter P ++ (if P x = true then [x] else []) := by
  rw [List.take_add_one, h, List.filter_append]
  congr 1
  simp [List.filter_cons]

set_option maxHeartbeats 4000000 in
set_option maxRecDepth 100000 in
theorem drop13_any (h : ByteArray) (xs : List Aks) (a : Option Addr) (cap lo : Nat) (w : World) (hin : SliceC AksC 4 lo w a xs) (hsm : xs.length ≤ 1048576) :
    Calls Tryz.prog 29 #[.slice a xs.length cap, .string h] w fun e w' => ∃ b q, e = .returned (.slice b (xs.filter (fun g : Aks => !decide (g.hold = h))).length q) ∧ w'.ownsRow w.heap.size 61 4 (.slice b (xs.filter (fun g : Aks => !decide (g.hold = h))).length q) (xs.filter (fun g : Aks => !decide (g.hold = h))).length (rvAks (xs.filter (fun g : Aks => !decide (g.hold = h)))) ∧ Below w.heap.size w w' := by
  obtain ⟨i0, hi, hz0, hz1, hz2⟩ := info_parts info_Aks
  have HI := Hid.intro hin
  clear hin
  go_enter Tryz.func29, Tryz.ntmps29
  go_wp2_with fail
  go_loopw [5, 6] (fun v i wr => ∃ (k : Nat) (b : Option Addr) (q m : Nat), k ≤ xs.length ∧ i = .int .i64 k ∧ v = .slice b m q ∧ Hid (m = ((xs.take k).filter (fun g : Aks => !decide (g.hold = h))).length) ∧ m ≤ k ∧ Hid (wr.ownsRow w.heap.size 61 4 (.slice b m q) m (rvAks ((xs.take k).filter (fun g : Aks => !decide (g.hold = h))))) ∧ Below w.heap.size w wr) (fun _ i _ => xs.length - (intOf i).toNat)
  case atStart => exact ⟨0, some ⟨w.heap.size, 0, none⟩, 0, 0, Nat.zero_le _, rfl, rfl, rfl, Nat.le_refl _, World.ownsRow_made w #[] 0 (Nat.le_refl _) (Nat.zero_le _) rfl, (Below.refl _ _).alloc (Nat.le_refl _) _⟩
  case round =>
    obtain ⟨k, b1, q, m, hk, rfl, rfl, HML, hmk, HO, hB⟩ := hrel
    by_cases hlt : k < xs.length
    case neg =>
      have hke : k = xs.length := by omega
      subst hke
      rw [List.take_length] at HML HO
      go_wp2_with fail
      go_ret
      exact ⟨b1, q, (by rw [← HML.out]; rfl), (by rw [← HML.out]; exact HO.out), hB⟩
    obtain ⟨x, hx⟩ : ∃ x, xs[k]? = some x := ⟨xs[k], List.getElem?_eq_getElem hlt⟩
    obtain ⟨b, ob, rfl, _, hbl, hc⟩ := (HI.out.below AksC.holds hB (Nat.le_refl _)).at hx
    have HRA := Hid.intro (aks_range hc)
    have q0 : wr.cell? ⟨b, ob + k * 4, none⟩ = some (.string x.hold) := by simpa using hc.1
    have HST := Hid.intro (filtA_step (P := (fun g : Aks => !decide (g.hold = h))) hx)
    clear hc hx
    by_cases hh : x.hold = h
    · have HO6 : Hid (wr.ownsRow w.heap.size 61 4 (.slice b1 m q) m (rvAks ((xs.take (k + 1)).filter (fun g : Aks => !decide (g.hold = h))))) := by
        show World.ownsRow _ _ _ _ _ _ _
        rw [HST.out, if_neg (by simp [hh]), List.append_nil]
        exact HO.out
      have HML2 : Hid (m = ((xs.take (k + 1)).filter (fun g : Aks => !decide (g.hold = h))).length) := by
        show _ = _
        rw [HST.out, if_neg (by simp [hh]), List.append_nil]
        exact HML.out
      have hh2 : (x.hold.toList == h.toList) = true := by rw [hh]; simp
      clear hh HO HRA
      go_wp2_with fail
      go_roundw
      case rel => exact ⟨k + 1, b1, q, m, by omega, by go_num, rfl, HML2, by omega, HO6, hB⟩
      case measure => simp [intOf]; omega
    · have HIF : Hid ((if (!decide (x.hold = h)) = true then [x] else []) = [x]) := by show _ = _; rw [if_pos (by simp [hh])]
      have hh2 : (x.hold.toList == h.toList) = false := bt_ne hh
      clear hh
      obtain ⟨NV, hnv⟩ : ∃ l, l = rcAks x := ⟨_, rfl⟩
      have HNV := Hid.intro hnv
      clear hnv
      have HNL : Hid (NV.length = 1 * 4) := by show _ = _; rw [HNV.out]; rfl
      have HNN : Hid (∀ j u, NV[j]? = some u → (wr.alloc (Obj.cells #[.string x.hold, .string x.copy, .int .i64 x.first, .int .i64 x.at_] 61)).cell? ((⟨wr.heap.size, 0, none⟩ : Addr).add j) = some u) := by
        intro j u hj
        rw [Addr.add_mid]
        rw [HNV.out] at hj
        exact (Blk.alloc wr #[.string x.hold, .string x.copy, .int .i64 x.first, .int .i64 x.at_] 61).rangeA j u hj
      have HN1 : Hid (∀ u ∈ NV, u.oneCell' = true) := by
        intro u hu
        rw [HNV.out] at hu
        exact rvAks_one [x] u (by simp only [rvAks, List.append_nil]; exact hu)
      have HOA := Hid.intro (HO.out.alloc (Obj.cells #[.string x.hold, .string x.copy, .int .i64 x.first, .int .i64 x.at_] 61))
      have hws : w.heap.size ≤ wr.heap.size := hB.size
      go_wp2_with (first | (refine wpList_load_mid rfl 61 _ rfl b (ob + k * 4) (by first | rfl | (simp [go_sem]; done)) [.string x.hold, .string x.copy, .int .i64 x.first, .int .i64 x.at_] _ HRA.out Tryz.underlying61 rfl isz_Aks ?_) | (at_builtin; refine wpList_append_own _ rfl _ _ 33 rfl w.heap.size 61 i0 _ 4 48 Tryz.underlying33 hi hz0 hz1 hz2 rfl (by decide) _ m _ rfl HOA.out ⟨wr.heap.size, 0, none⟩ 1 1 NV rfl HNL.out HNN.out HN1.out (by unfold maxLen; omega) (by omega) (by simp; omega) ?_; intro v' w8 hown8 hgrow8 hnil8; have hv8 : v' ≠ .slice none 0 0 := (fun e => by have h9 := (hnil8.1 e).2; cases h9); obtain ⟨g8, q8, rfl⟩ := rowf hown8 hv8))
      have HO8 : Hid (w8.ownsRow w.heap.size 61 4 (.slice (some ⟨g8, 0, none⟩) (m + 1) q8) (m + 1) (rvAks ((xs.take (k + 1)).filter (fun g : Aks => !decide (g.hold = h))))) := by
        show World.ownsRow _ _ _ _ _ _ _
        rw [HST.out, HIF.out, rvAks_app]
        rw [HNV.out] at hown8
        simp only [rvAks, List.append_nil]
        exact hown8
      have HML2 : Hid (m + 1 = ((xs.take (k + 1)).filter (fun g : Aks => !decide (g.hold = h))).length) := by
        show _ = _
        rw [HST.out, HIF.out, List.length_append]
        rw [← HML.out]
        rfl
      have hB8 : Below w.heap.size w w8 := (hB.alloc hB.size _).grown hgrow8 (by have := hB.size; simp; omega) (own_blk' HO.out)
      clear hown8 hgrow8 hnil8 hv8
      go_wp2_with fail
      go_roundw
      case rel => exact ⟨k + 1, some ⟨g8, 0, none⟩, q8, m + 1, by omega, by go_num, rfl, HML2, by omega, HO8, hB8⟩
      case measure => simp [intOf]; omega

end Go.Proofs.YtlangcodelcncaaGreat

namespace Go.Proofs.YtlangcodelcncaaGreat
open Go.RowKit

theorem cell_other {w : World} {b o b' o' : Nat} (h : b' ≠ b) (v : Value) : (w.setCell ⟨b, o, none⟩ v).cell? ⟨b', o', none⟩ = w.cell? ⟨b', o', none⟩ :=
  World.cell?_of_block (w := w) (a := ⟨b', o', none⟩) (Below.heap_setCell w ⟨b, o, none⟩ v b' h)

theorem setC {α : Type} {C : Make α} {n lo : Nat} {w : World} {a : Option Addr} {xs : List α} (hF : ∀ (w w' : World) (f g : Nat → Option Value) (x : α), (∀ i, i < n → g i = f i) → C lo w f x → C lo w' g x) (h : SliceC C n lo w a xs) (b o : Nat) (v : Value) (hne : ∀ b' o' s, a = some ⟨b', o', s⟩ → b' ≠ b) : SliceC C n lo (w.setCell ⟨b, o, none⟩ v) a xs := by
  refine ⟨h.1, ?_⟩
  rcases h.2 with h0 | ⟨b', o', rfl, ⟨h1, hf⟩, h2, h3⟩
  · exact .inl h0
  · have hb := hne b' o' none rfl
    refine .inr ⟨b', o', rfl, ⟨h1, fun hl p => (World.frozen?_setCell _ _ _ _).trans (hf hl p)⟩, by simpa [World.setCell] using h2, fun j x hx => ?_⟩
    exact hF w _ _ _ x (fun i _ => cell_other hb v) (h3 j x hx)

theorem flatW {lo : Nat} : ∀ (w w' : World) (f g : Nat → Option Value) (x : Wnt), (∀ i, i < 7 → g i = f i) → WntC lo w f x → WntC lo w' g x :=
  fun w _ f g x h hx => WntC.holds lo lo w w f g x h (Keeps.refl _ _) (Nat.le_refl _) hx
theorem flatR {lo : Nat} : ∀ (w w' : World) (f g : Nat → Option Value) (x : Rn), (∀ i, i < 11 → g i = f i) → RnC lo w f x → RnC lo w' g x :=
  fun w _ f g x h hx => RnC.holds lo lo w w f g x h (Keeps.refl _ _) (Nat.le_refl _) hx
theorem flatA {lo : Nat} : ∀ (w w' : World) (f g : Nat → Option Value) (x : Aks), (∀ i, i < 4 → g i = f i) → AksC lo w f x → AksC lo w' g x :=
  fun w _ f g x h hx => AksC.holds lo lo w w f g x h (Keeps.refl _ _) (Nat.le_refl _) hx

theorem sl_frozen {α : Type} {C : Make α} {n lo b : Nat} {w : World} {xs : List α} {k : Nat} {x : α} (h : SliceC C n lo w (some ⟨b, 0, none⟩) xs) (hl : 0 < lo) (hx : xs[k]? = some x) (p : Nat) : w.frozen? ⟨b, p, none⟩ = false := by
  rcases h.2 with h0 | ⟨b', o', e, ⟨_, hf⟩, _, _⟩
  · subst h0; simp at hx
  · cases e
    exact hf hl p

theorem rn_cell {lo b : Nat} {w : World} {xs : List Rn} {k : Nat} {r : Rn} (h : SliceC RnC 11 lo w (some ⟨b, 0, none⟩) xs) (hx : xs[k]? = some r) : w.cell? ⟨b, k * 11 + 10, none⟩ = some (.int .i64 r.until_) := by
  obtain ⟨b', o', e, _, _, hc⟩ := h.at hx
  cases e
  obtain ⟨_, _, _, _, _, _, _, _, _, _, q10, _⟩ := hc
  rw [Nat.zero_add] at q10
  exact q10

theorem cell_same {w : World} {b o : Nat} {u : Value} (hc : w.cell? ⟨b, o, none⟩ = some u) (v : Value) : (w.setCell ⟨b, o, none⟩ v).cell? ⟨b, o, none⟩ = some v := World.cell?_setCell_same w _ _ hc

theorem cell_off {w : World} {b o o' : Nat} (h : o' ≠ o) (v : Value) : (w.setCell ⟨b, o, none⟩ v).cell? ⟨b, o', none⟩ = w.cell? ⟨b, o', none⟩ :=
  World.cell?_setCell_other w _ _ _ (by intro e; simp only [Addr.mk.injEq] at e; omega)

theorem rn_until {lo b : Nat} {w : World} {xs : List Rn} {k : Nat} {r : Rn} (h : SliceC RnC 11 lo w (some ⟨b, 0, none⟩) xs) (hx : xs[k]? = some r) (u : Int) : SliceC RnC 11 lo (w.setCell ⟨b, k * 11 + 10, none⟩ (.int .i64 u)) (some ⟨b, 0, none⟩) (xs.set k { r with until_ := u }) := by
  have hq := rn_cell h hx
  have hk := lt_of_some hx
  refine ⟨by rw [List.length_set]; exact h.1, ?_⟩
  rcases h.2 with h0 | ⟨b', o', e, ⟨h1, hf⟩, h2, h3⟩
  · subst h0; simp at hx
  · cases e
    refine .inr ⟨b, 0, rfl, ⟨h1, fun hl p => (World.frozen?_setCell _ _ _ _).trans (hf hl p)⟩, by simpa [World.setCell] using h2, fun j x hj => ?_⟩
    by_cases e : k = j
    · subst e
      rw [List.getElem?_set_self hk] at hj
      cases hj
      obtain ⟨q0, q1, q2, q3, q4, q5, q6, q7, q8, q9, q10, z0, z2⟩ := h3 k r hx
      exact ⟨(cell_off (by omega) _).trans q0, (cell_off (by omega) _).trans q1, (cell_off (by omega) _).trans q2, (cell_off (by omega) _).trans q3, (cell_off (by omega) _).trans q4, (cell_off (by omega) _).trans q5, (cell_off (by omega) _).trans q6, (cell_off (by omega) _).trans q7, (cell_off (by omega) _).trans q8, (cell_off (by omega) _).trans q9, (by show World.cell? _ ⟨b, 0 + k * 11 + 10, none⟩ = _; rw [Nat.zero_add]; exact cell_same hq _), z0, z2⟩
    · rw [List.getElem?_set_ne e] at hj
      exact flatR w _ _ _ x (fun i hi => cell_off (by omega) _) (h3 j x hj)

def mixR (q : Pcl) (xs : List Rn) (k : Nat) : List Rn := (xs.take k).map (updR q) ++ xs.drop k

theorem mix_len (q : Pcl) (xs : List Rn) (k : Nat) : (mixR q xs k).length = xs.length := by
  unfold mixR
  simp
  omega

theorem mix_end (q : Pcl) (xs : List Rn) : mixR q xs xs.length = xs.map (updR q) := by
  unfold mixR
  rw [List.take_length, List.drop_length, List.append_nil]

theorem mix_at {q : Pcl} {xs : List Rn} {k : Nat} {r : Rn} (h : xs[k]? = some r) : (mixR q xs k)[k]? = some r := by
  have hk := lt_of_some h
  unfold mixR
  rw [List.getElem?_append_right (by simp; omega)]
  simp
  rw [show k - min k xs.length = 0 by omega]
  simpa using h

theorem mix_step {q : Pcl} {xs : List Rn} {k : Nat} {r : Rn} (h : xs[k]? = some r) : mixR q xs (k + 1) = (mixR q xs k).set k (updR q r) := by
  have hk := lt_of_some h
  have hd : xs.drop k = r :: xs.drop (k + 1) := by
    rw [List.drop_eq_getElem_cons hk]
    congr 1
    rw [List.getElem?_eq_getElem hk] at h
    exact Option.some.inj h
  unfold mixR
  rw [List.take_add_one, h, hd, List.map_append, List.set_append]
  simp
  rw [if_neg (by omega), show k - min k xs.length = 0 by omega]
  rfl

theorem mix_same {q : Pcl} {xs : List Rn} {k : Nat} {r : Rn} (h : xs[k]? = some r) : (mixR q xs k).set k r = mixR q xs k := by
  have hm := mix_at (q := q) h
  apply List.ext_getElem?
  intro j
  by_cases e : k = j
  · subst e
    rw [List.getElem?_set_self (lt_of_some hm), hm]
  · rw [List.getElem?_set_ne e]

theorem upd_late {q : Pcl} {r : Rn} (h : ¬ r.until_ < q.at_ + 16) : updR q r = r := by
  unfold updR
  rw [if_neg (fun h2 => h h2.2.2)]

theorem ak_none {h : ByteArray} {xs : List Aks} (hq : akI h xs = none) : xs.find? (fun a => decide (a.hold = h)) = none := by
  unfold akI at hq
  rw [List.findIdx?_eq_none_iff] at hq
  rw [List.find?_eq_none]
  intro a ha
  simpa using hq a ha

theorem ak_some {h : ByteArray} {xs : List Aks} {j : Nat} (hq : akI h xs = some j) : ∃ a, xs[j]? = some a ∧ xs.find? (fun a => decide (a.hold = h)) = some a := by
  unfold akI at hq
  rw [List.findIdx?_eq_some_iff_getElem] at hq
  obtain ⟨hj, h1, h2⟩ := hq
  refine ⟨xs[j], List.getElem?_eq_getElem hj, ?_⟩
  rw [List.find?_eq_some_iff_getElem]
  exact ⟨h1, j, hj, rfl, fun i hi => by simpa using h2 i hi⟩

theorem own_ne {base n q : Nat} {a : Option Addr} {w : World} {e : TypeId} {s : Nat} {cs : List Value} (h : w.ownsRow base e s (.slice a n q) n cs) {p : Nat} (hp : p < base) : ∀ b o s, a = some ⟨b, o, s⟩ → b ≠ p := by
  intro b o s ea
  rcases h.2 with ⟨h1, _⟩ | ⟨g', cap', cur, h1, h2, _⟩
  · rw [ea] at h1
    cases h1
  · rw [ea] at h1
    cases h1
    omega

end Go.Proofs.YtlangcodelcncaaGreat
