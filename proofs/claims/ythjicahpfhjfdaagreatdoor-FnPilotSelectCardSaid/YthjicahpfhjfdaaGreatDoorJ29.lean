/-
  Several texts in one: PrT, SlI.
-/
import Derived.Test.YthjicahpfhjfdaaGreatDoorJ18
import Derived.Test.YthjicahpfhjfdaaGreatDoorVlS
import Derived.Test.YthjicahpfhjfdaaGreatDoorPrQ
import Derived.Test.YthjicahpfhjfdaaGreatDoorSlH
namespace Go.Proofs.YthjicahpfhjfdaaGreatDoor
open Go.RowKit

theorem nonT_nm {s : ByteArray} (h : P.nmT s = P.nonT) : False := by simp [P.nmT, P.nonT] at h
theorem nonT_vl {s v : ByteArray} (h : P.vlT s v = P.nonT) : False := by simp [P.vlT, P.nonT] at h
theorem nonT_nt {t : P.Tr} (h : P.ntT t = P.nonT) : False := by
  have := congrArg P.tall h
  rw [P.tall_nt, P.tall_non] at this
  omega
theorem nonT_an {t u : P.Tr} (h : P.anT t u = P.nonT) : False := by
  have := congrArg P.tall h
  rw [P.tall_an, P.tall_non] at this
  omega
theorem nonT_or {t u : P.Tr} (h : P.orT t u = P.nonT) : False := by
  have := congrArg P.tall h
  rw [P.tall_or, P.tall_non] at this
  omega

theorem write_any (ns : List P.Nd) (out : List (List Nat)) (n cn co go g : Nat) (hol : out.length = n) (t : P.Tr) (k : Nat) (h : P.IsT ns out k t) :
    P.wf t ∧ ((t = P.nonT ∨ P.good t) → P.count t ≤ 400 → WriteOk ns out n cn co go g k t) := by
  refine P.isT_ind (ns := ns) (out := out) (p := fun k t => P.wf t ∧ ((t = P.nonT ∨ P.good t) → P.count t ≤ 400 → WriteOk ns out n cn co go g k t)) ?_ ?_ ?_ ?_ ?_ ?_ t k h
  · intro k nd hnd hk _
    exact ⟨P.wf_non, fun _ _ => writeNon_any ns out n cn co go g k nd hnd hk⟩
  · intro k nd hnd hk _
    refine ⟨P.wf_nm _, fun h _ => ?_⟩
    rcases h with h | h
    · exact (nonT_nm h).elim
    · rw [P.good_nm] at h
      exact writeNm_any ns out n cn co go g k nd hnd hk h.2
  · intro k nd hnd hk _
    refine ⟨P.wf_vl _ _, fun h _ => ?_⟩
    rcases h with h | h
    · exact (nonT_vl h).elim
    · rw [P.good_vl] at h
      exact writeVl_any ns out n cn co go g k nd hnd hk h.1.2 h.2.2
  · intro k nd a t hnd hk hout _ _ ih
    refine ⟨P.wf_nt ih.1, fun h hc => ?_⟩
    rcases h with h | h
    · exact (nonT_nt h).elim
    · rw [P.good_nt] at h
      rw [P.count_nt] at hc
      have := P.pr_le t ih.1 (.inr h)
      exact writeNt_any ns out n cn co go g k a t nd hol hnd hk hout (by omega) (ih.2 (.inr h) (by omega))
  · intro k nd a b t u hnd hk hout _ _ _ _ ih ih'
    refine ⟨P.wf_an ih.1 ih'.1, fun h hc => ?_⟩
    rcases h with h | h
    · exact (nonT_an h).elim
    · rw [P.good_an] at h
      rw [P.count_an] at hc
      have h1 := P.pr_le t ih.1 (.inr h.1)
      have h2 := P.pr_le u ih'.1 (.inr h.2)
      exact writeAn_any ns out n cn co go g k a b t u nd hol hnd hk hout (by omega) (by omega) (ih.2 (.inr h.1) (by omega)) (ih'.2 (.inr h.2) (by omega))
  · intro k nd a b t u hnd hk hout _ _ _ _ ih ih'
    refine ⟨P.wf_or ih.1 ih'.1, fun h hc => ?_⟩
    rcases h with h | h
    · exact (nonT_or h).elim
    · rw [P.good_or] at h
      rw [P.count_or] at hc
      have h1 := P.pr_le t ih.1 (.inr h.1)
      have h2 := P.pr_le u ih'.1 (.inr h.2)
      exact writeOr_any ns out n cn co go g k a b t u nd hol hnd hk hout (by omega) (by omega) (ih.2 (.inr h.1) (by omega)) (ih'.2 (.inr h.2) (by omega))

theorem bind_pos {t : P.Tr} (h : P.wf t) : ¬ P.bindT t < 1 := by
  rcases P.wf_cases h with rfl | ⟨n, rfl⟩ | ⟨n, v, rfl⟩ | ⟨k, _, rfl⟩ | ⟨a, b, _, _, rfl⟩ | ⟨a, b, _, _, rfl⟩
  · rw [P.bind_non]; omega
  · rw [P.bind_nm]; omega
  · rw [P.bind_vl]; omega
  · rw [P.bind_nt]; omega
  · rw [P.bind_an]; omega
  · rw [P.bind_or]; omega

theorem out_none {ns : List P.Nd} (h : P.treeI ns = none) : P.outI ns = ⟨#[]⟩ := by unfold P.outI; rw [h]

theorem out_bad {ns : List P.Nd} (h : validB ns = false) : P.outI ns = ⟨#[]⟩ := by
  unfold validB at h
  cases ht : P.treeOk ns with
  | true =>
    rw [ht, Bool.true_and] at h
    exact out_none (by simpa using h)
  | false =>
    by_cases hl : ns.length ≤ 400
    · exact out_none (P.no_tree hl ht)
    · cases hi : P.treeI ns with
      | none => exact out_none hi
      | some t =>
        have := P.great_tree (by omega) hi
        unfold P.outI
        rw [hi]
        exact if_pos this

set_option maxHeartbeats 2000000 in
theorem specPrint_any (ns : List P.Nd) (g cn : Nat) (w : World) (hN : Nodes0 w g ns) (hsm : Small ns) :
    Calls Tryz.prog 6 #[.agg #[.slice (some ⟨g, 0, none⟩) ns.length cn]] w fun e w' => e = .returned (.string (P.outI ns)) ∧ Below w.heap.size w w' := by
  have HN : Hid (Nodes0 w g ns) := hN
  have HS : Hid (Small ns) := hsm
  clear hN hsm
  cases hv : validB ns with
  | false =>
    have HV : Hid (validB ns = false) := hv
    have HO : Hid (P.outI ns = ⟨#[]⟩) := out_bad hv
    clear hv
    go_enter Tryz.func6, Tryz.ntmps6
    go_wp2_with fail
    refine (valid_any ns g cn _ (HN.out.grown (by go_grown)) HS.out).mono ?_
    rintro e w1 ⟨rfl, hb⟩
    rw [HV.out]
    go_wp2_with fail
    go_ret
    exact ⟨by rw [HO.out]; rfl, ((Below.refl _ w).alloc (Nat.le_refl _) _).trans (hb.mono (by simp))⟩
  | true =>
    have HV : Hid (validB ns = true) := hv
    unfold validB at hv
    simp only [Bool.and_eq_true] at hv
    obtain ⟨ht, hi⟩ := hv
    obtain ⟨out, r, t, hko, hol, hrl, hIs, hlo, hhi, hfin, hct⟩ := P.same_tree2 ht
    have hlen := treeOk_len ht
    have h20 : P.tall t ≤ 20 := by
      by_cases h : P.tall t ≤ 20
      · exact h
      · rw [hhi (by omega)] at hi
        cases hi
    have HKO : Hid (P.kidsOf ns = some (out, [r])) := hko
    have hgood : t = P.nonT ∨ P.good t := hfin.imp id (fun h => h.2)
    have cc := fun go co => (write_any ns out ns.length cn co go g hol t r hIs).2 hgood (by omega) 1
    have hwf := (write_any ns out ns.length cn 0 0 g hol t r hIs).1
    have hsz := P.pr_le t hwf hgood
    rw [wr_out (bind_pos hwf), show ((r : Nat) : Int) = (ns.length : Int) - 1 by omega] at cc
    have HC : Hid (∀ (go co : Nat) (w : World), Nodes0 w g ns → KidsIn w go out → Calls Tryz.prog 21 #[.agg #[.slice (some ⟨g, 0, none⟩) ns.length cn], .slice (some ⟨go, 0, none⟩) ns.length co, .int .i64 ((ns.length : Int) - 1), .int .i64 1] w fun e w' => e = .returned (.string (P.pr t)) ∧ Below w.heap.size w w') := cc
    have hl1 : 1 ≤ ns.length := by omega
    have HO : Hid (P.outI ns = if 200 < (P.pr t).size then ⟨#[]⟩ else P.pr t) := by
      show _ = _
      unfold P.outI
      rw [hlo h20]
    have hpz : (P.pr t).size ≤ 20000 := by omega
    clear ht hko cc hIs hlo hhi hct hrl hol hfin hgood hwf hsz h20 hi
    generalize hT : P.pr t = T at *
    clear hT
    go_enter Tryz.func6, Tryz.ntmps6
    go_wp2_with fail
    refine (valid_any ns g cn _ (HN.out.grown (by go_grown)) HS.out).mono ?_
    rintro e w1 ⟨rfl, hb⟩
    rw [HV.out]
    have hB1 : Below w.heap.size w w1 := ((Below.refl _ w).alloc (Nat.le_refl _) _).trans (hb.mono (by simp))
    have hc1 : w1.cell? ⟨w.heap.size, 0, none⟩ = some (.slice (some ⟨g, 0, none⟩) ns.length cn) := (hb.cell (p := ⟨w.heap.size, 0, none⟩) (by simp)).trans (by simp)
    have hz1 : w.heap.size < w1.heap.size := by have := hb.size; simp at this; omega
    clear hb
    go_wp2_with fail
    refine (kids_any ns g cn _ (HN.out.grown hB1) hlen).mono ?_
    rintro e w2 ⟨hb2, h2⟩
    rw [HKO.out] at h2
    obtain ⟨go, co, rfl, hkin, _⟩ := h2
    have hc2 : w2.cell? ⟨w.heap.size, 0, none⟩ = some (.slice (some ⟨g, 0, none⟩) ns.length cn) := (hb2.cell (p := ⟨w.heap.size, 0, none⟩) hz1).trans hc1
    have HB : Hid (Below w.heap.size w w2) := hB1.trans (hb2.mono (by omega))
    have HK : Hid (KidsIn w2 go out) := hkin
    clear hb2 hkin hc1
    go_wp2_with fail
    refine (HC.out _ _ _ (HN.out.grown HB.out) HK.out).mono ?_
    rintro e w3 ⟨rfl, hb3⟩
    have HB3 : Hid (Below w.heap.size w w3) := HB.out.trans (hb3.mono HB.out.size)
    clear hb3
    by_cases h200 : 200 < T.size
    · go_wp2_with fail
      go_ret
      exact ⟨by rw [HO.out, if_pos h200]; rfl, HB3.out⟩
    · go_wp2_with fail
      go_ret
      exact ⟨by rw [HO.out, if_neg h200]; rfl, HB3.out⟩

end Go.Proofs.YthjicahpfhjfdaaGreatDoor

namespace Go.Proofs.YthjicahpfhjfdaaGreatDoor
open Go.RowKit

theorem tabB (L : List ByteArray) (B v : Nat) (h : v < L.length) (hs : ∀ s ∈ L, s.size ≤ B) : ∃ s : ByteArray, (L.map Value.string).toArray[v]? = some (.string s) ∧ s.size ≤ B := by
  refine ⟨L[v], ?_, hs _ (List.getElem_mem h)⟩
  rw [List.getElem?_toArray, List.getElem?_map, List.getElem?_eq_getElem h]
  rfl

theorem outI_size (ns : List P.Nd) : (P.outI ns).size ≤ 200 := by
  unfold P.outI
  split
  · decide
  · split
    · decide
    · omega

theorem Sh.small {ns : List P.Nd} (h : Sh ns) (hl : ns.length ≤ 1000) : Small ns := ⟨by omega, fun n hn => by have := h n hn; omega⟩

theorem NdRow.nodes {w : World} {B g n c : Nat} {ns : List P.Nd} (h : NdRow w B (.slice (some ⟨g, 0, none⟩) n c) ns) : Nodes0 w g ns := by
  obtain ⟨g', cap, h1, h2, h3, h4⟩ := h
  have e : g' = g := by
    simp only [Value.slice.injEq, Option.some.injEq, Addr.mk.injEq, and_true] at h1
    exact h1.1.symm
  subst e
  exact nodes0_row h3 h4

set_option maxHeartbeats 8000000 in
set_option maxRecDepth 100000 in
theorem drawParse_any (xs : List Nat) (a : Option Addr) (cap : Nat) (w : World) (hin : ByIn a xs w) (hl : xs.length ≤ 1048576) (hc : xs.length ≤ cap) :
    Calls Tryz.prog 9 #[.slice a xs.length cap] w fun e w' => ∃ t : ByteArray, e = .returned (.string t) ∧ t.size ≤ 3000 ∧ Below w.heap.size w w' := by
  have HI := Hid.intro hin
  clear hin
  go_enter Tryz.func9, Tryz.ntmps9
  go_wp2_with fail
  refine (open_rd xs a cap _ HI.out hl hc).mono ?_
  rintro e w1 ⟨p, rfl, hr, hp, hb1⟩
  have hR : RdL p 0 w1 := ⟨0, Nat.le_refl _, hr⟩
  have HR := Hid.intro hR
  have HB := Hid.intro hb1
  have hp1 : p < w1.heap.size := HR.out.lt
  clear hr hR hb1
  go_wp2_with fail
  refine (pickL p 0 20 _ HR.out (by omega) (by omega) (by omega)).mono ?_
  rintro e w2 ⟨k, rfl, hk, hr, hb⟩
  replace HB := Hid.intro (HB.out.trans (hb.below (B' := w.heap.size) (by omega) hp))
  replace HR := Hid.intro hr
  clear hr hb
  by_cases hk4 : k < 4
  · have k4 : (k : Int) < 4 := by omega
    go_wp2_with fail
    refine (many_any ⟨#[33]⟩ 19 _ (by decide) (by omega)).mono ?_
    rintro e w2 ⟨t1, rfl, ht1, rfl⟩
    go_wp2_with fail
    refine (many_any ⟨#[33]⟩ 21 _ (by decide) (by omega)).mono ?_
    rintro e w2 ⟨t2, rfl, ht2, rfl⟩
    go_wp2_with fail
    refine (many_any ⟨#[40]⟩ 99 _ (by decide) (by omega)).mono ?_
    rintro e w2 ⟨t3, rfl, ht3, rfl⟩
    go_wp2_with fail
    refine (many_any ⟨#[41]⟩ 99 _ (by decide) (by omega)).mono ?_
    rintro e w2 ⟨t4, rfl, ht4, rfl⟩
    go_wp2_with fail
    refine (pickL p (0 + 1) 2 _ HR.out (by omega) (by omega) (by omega)).mono ?_
    rintro e w3 ⟨u, rfl, hu, hr, hb⟩
    replace HB := Hid.intro (HB.out.trans (hb.below (B' := w.heap.size) HB.out.size hp))
    replace HR := Hid.intro hr
    clear hr hb
    have hsz2 := HB.out.size
    have HM5 := Hid.intro (fun W : World => many_any ⟨#[32]⟩ (200 + u) W (by decide) (by omega))
    rw [show ((200 + u : Nat) : Int) = 200 + (u : Int) by omega] at HM5
    go_wp2_with fail
    refine (HM5.out _).mono ?_
    rintro e w3 ⟨t5, rfl, ht5, rfl⟩
    clear HM5
    have hp3 : p < w3.heap.size := HR.out.lt
    have hba : Below w3.heap.size w3 (w3.alloc (Obj.cells #[.string ⟨#[]⟩, .string ⟨#[32, 32]⟩, .string ⟨#[97, 124, 98, 38, 99]⟩, .string ⟨#[33, 40, 97, 124, 98, 41, 38, 33, 99]⟩, .string ⟨#[40, 40, 97, 41, 41]⟩, .string ⟨#[97, 32, 61, 32, 98]⟩, .string ⟨#[97, 61]⟩, .string ⟨#[61, 97]⟩, .string ⟨#[97, 32, 98]⟩, .string ⟨#[33]⟩, .string ⟨#[40, 41]⟩, .string ⟨#[97, 124, 124, 98]⟩, .string (t1 ++ (⟨#[97]⟩ : ByteArray)), .string (t2 ++ (⟨#[97]⟩ : ByteArray)), .string (t3 ++ (⟨#[97]⟩ : ByteArray) ++ t4), .string t5, .string ⟨#[90, 111, 110, 101]⟩] 9)) := (Below.refl _ _).alloc (Nat.le_refl _) _
    have HT : Hid (Blk w3.heap.size #[.string ⟨#[]⟩, .string ⟨#[32, 32]⟩, .string ⟨#[97, 124, 98, 38, 99]⟩, .string ⟨#[33, 40, 97, 124, 98, 41, 38, 33, 99]⟩, .string ⟨#[40, 40, 97, 41, 41]⟩, .string ⟨#[97, 32, 61, 32, 98]⟩, .string ⟨#[97, 61]⟩, .string ⟨#[61, 97]⟩, .string ⟨#[97, 32, 98]⟩, .string ⟨#[33]⟩, .string ⟨#[40, 41]⟩, .string ⟨#[97, 124, 124, 98]⟩, .string (t1 ++ (⟨#[97]⟩ : ByteArray)), .string (t2 ++ (⟨#[97]⟩ : ByteArray)), .string (t3 ++ (⟨#[97]⟩ : ByteArray) ++ t4), .string t5, .string ⟨#[90, 111, 110, 101]⟩] 9 (w3.alloc (Obj.cells #[.string ⟨#[]⟩, .string ⟨#[32, 32]⟩, .string ⟨#[97, 124, 98, 38, 99]⟩, .string ⟨#[33, 40, 97, 124, 98, 41, 38, 33, 99]⟩, .string ⟨#[40, 40, 97, 41, 41]⟩, .string ⟨#[97, 32, 61, 32, 98]⟩, .string ⟨#[97, 61]⟩, .string ⟨#[61, 97]⟩, .string ⟨#[97, 32, 98]⟩, .string ⟨#[33]⟩, .string ⟨#[40, 41]⟩, .string ⟨#[97, 124, 124, 98]⟩, .string (t1 ++ (⟨#[97]⟩ : ByteArray)), .string (t2 ++ (⟨#[97]⟩ : ByteArray)), .string (t3 ++ (⟨#[97]⟩ : ByteArray) ++ t4), .string t5, .string ⟨#[90, 111, 110, 101]⟩] 9))) := Blk.alloc _ _ _
    replace HR := Hid.intro (HR.out.below hba HR.out.lt)
    replace HB := Hid.intro (HB.out.trans (hba.mono HB.out.size))
    skip
    go_wp2_with fail
    generalize w3.alloc (Obj.cells #[.string ⟨#[]⟩, .string ⟨#[32, 32]⟩, .string ⟨#[97, 124, 98, 38, 99]⟩, .string ⟨#[33, 40, 97, 124, 98, 41, 38, 33, 99]⟩, .string ⟨#[40, 40, 97, 41, 41]⟩, .string ⟨#[97, 32, 61, 32, 98]⟩, .string ⟨#[97, 61]⟩, .string ⟨#[61, 97]⟩, .string ⟨#[97, 32, 98]⟩, .string ⟨#[33]⟩, .string ⟨#[40, 41]⟩, .string ⟨#[97, 124, 124, 98]⟩, .string (t1 ++ (⟨#[97]⟩ : ByteArray)), .string (t2 ++ (⟨#[97]⟩ : ByteArray)), .string (t3 ++ (⟨#[97]⟩ : ByteArray) ++ t4), .string t5, .string ⟨#[90, 111, 110, 101]⟩] 9) = w4 at *
    refine (pickL p (0 + 1 + 1) 17 _ HR.out (by omega) (by omega) (by omega)).mono ?_
    rintro e w5 ⟨j, rfl, hj, hr, hb⟩
    obtain ⟨s, hs, hz⟩ := tabB [⟨#[]⟩, ⟨#[32, 32]⟩, ⟨#[97, 124, 98, 38, 99]⟩, ⟨#[33, 40, 97, 124, 98, 41, 38, 33, 99]⟩, ⟨#[40, 40, 97, 41, 41]⟩, ⟨#[97, 32, 61, 32, 98]⟩, ⟨#[97, 61]⟩, ⟨#[61, 97]⟩, ⟨#[97, 32, 98]⟩, ⟨#[33]⟩, ⟨#[40, 41]⟩, ⟨#[97, 124, 124, 98]⟩, (t1 ++ (⟨#[97]⟩ : ByteArray)), (t2 ++ (⟨#[97]⟩ : ByteArray)), (t3 ++ (⟨#[97]⟩ : ByteArray) ++ t4), t5, ⟨#[90, 111, 110, 101]⟩] 3000 j (by simp; omega) (by intro s hs; simp at hs; rcases hs with rfl | rfl | rfl | rfl | rfl | rfl | rfl | rfl | rfl | rfl | rfl | rfl | rfl | rfl | rfl | rfl | rfl <;> first | decide | omega | (rw [ByteArray.size_append]; have : (⟨#[97]⟩ : ByteArray).size = 1 := rfl; omega) | (rw [ByteArray.size_append, ByteArray.size_append]; have : (⟨#[97]⟩ : ByteArray).size = 1 := rfl; omega))
    have c0 : w5.cell? ⟨w3.heap.size, j, none⟩ = some (.string s) := (HT.out.bt hb HT.out.lt (by omega)).cell hs
    have i0 : (0 : Int) ≤ (j : Int) := by omega
    replace HB := Hid.intro (HB.out.trans (hb.below (B' := w.heap.size) HB.out.size hp))
    clear hs hb HT
    go_wp2_with fail
    go_ret
    exact ⟨s, rfl, hz, HB.out⟩
  · have k4 : ¬ (k : Int) < 4 := by omega
    go_wp2_with fail
    refine (select_any p (0 + 1) _ HR.out (by omega)).mono ?_
    rintro e w3 ⟨x, rfl, ns, ⟨g, c, rfl, hg1, hg2, hg3⟩, hln, hl1, hsh, hr, hb⟩
    have HN : Hid (NdRow w3 w2.heap.size (.slice (some ⟨g, 0, none⟩) ns.length c) ns) := ⟨g, c, rfl, hg1, hg2, hg3⟩
    replace HB := Hid.intro (HB.out.trans (hb.below (B' := w.heap.size) HB.out.size hp))
    replace HR := Hid.intro hr
    have HSM := Hid.intro (hsh.small (by omega))
    clear hg1 hg3 hsh hr hb
    go_wp2_with fail
    refine (specPrint_any ns g c _ HN.out.nodes HSM.out).mono ?_
    rintro e w4 ⟨rfl, hb⟩
    have hos := outI_size ns
    replace HR := Hid.intro (HR.out.below hb HR.out.lt)
    replace HB := Hid.intro (HB.out.trans (hb.mono HB.out.size))
    clear hb HN HSM
    generalize P.outI ns = t at *
    go_wp2_with fail
    refine (pickL p (0 + 1 + 200) 2 _ HR.out (by omega) (by omega) (by omega)).mono ?_
    rintro e w5 ⟨v, rfl, hv, hr, hb⟩
    replace HB := Hid.intro (HB.out.trans (hb.below (B' := w.heap.size) HB.out.size hp))
    replace HR := Hid.intro hr
    clear hr hb
    by_cases hv0 : v = 0
    · subst hv0
      go_wp2_with fail
      refine (bend_any p (0 + 1 + 200 + 1) t _ HR.out (by omega) (by omega)).mono ?_
      rintro e w6 ⟨t2, rfl, hz, hr, hb⟩
      replace HB := Hid.intro (HB.out.trans (hb.below (B' := w.heap.size) HB.out.size hp))
      clear hr hb
      go_wp2_with fail
      go_ret
      exact ⟨t2, rfl, hz, HB.out⟩
    · have v0 : ¬ (v : Int) = 0 := by omega
      have v1 : ((v : Int) == 0) = false := by simpa using v0
      go_wp2_with fail
      go_ret
      exact ⟨t, rfl, by omega, HB.out⟩

end Go.Proofs.YthjicahpfhjfdaaGreatDoor
