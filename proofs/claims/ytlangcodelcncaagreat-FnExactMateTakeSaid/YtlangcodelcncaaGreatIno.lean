import Derived.Test.YtlangcodelcncaaGreatItk
import Derived.Test.YtlangcodelcncaaGreatOrd
import Derived.Test.YtlangcodelcncaaGreatAv3
import Derived.Test.YtlangcodelcncaaGreatRwAks
namespace Go.Proofs.YtlangcodelcncaaGreat
open Go.RowKit Go.WideMaps Go.Maps Go.Sort

structure TabA (D : DataW Unit) (xs : List Aks) : Prop where
  has_ : ∀ s, has D (kOf s) = xs.any (fun a => decide (a.hold = s))
  at_ : ∀ x ∈ xs, D.atKey (kOf x.hold) (datA ⟨⟨#[]⟩, ⟨#[]⟩, 0, 0⟩) = datA x

theorem TabA.mem {D : DataW Unit} {xs : List Aks} (h : TabA D xs) (x : List UInt8) : x ∈ nmL (xs.map (·.hold)) ↔ has D (.string x) = true := by
  have h1 := h.has_ ⟨⟨x⟩⟩
  have h2 : kOf ⟨⟨x⟩⟩ = .string x := rfl
  rw [h2] at h1
  rw [h1, List.any_eq_true]
  unfold nmL
  simp only [List.map_map, List.mem_map, Function.comp]
  constructor
  · rintro ⟨a, ha, e⟩
    refine ⟨a, ha, decide_eq_true (ba_inj ?_)⟩
    rw [← ByteArray.toList_eq, e]
  · rintro ⟨a, ha, e⟩
    refine ⟨a, ha, ?_⟩
    rw [of_decide_eq_true e, ByteArray.toList_eq]

theorem rvAks_app : ∀ (xs ys : List Aks), rvAks (xs ++ ys) = rvAks xs ++ rvAks ys
  | [], _ => rfl
  | x :: r, ys => by simp only [List.cons_append, rvAks, rvAks_app r ys, List.append_assoc]

theorem bt_back (s : ByteArray) : (⟨s.toList.toArray⟩ : ByteArray) = s := by
  rw [ByteArray.toList_eq]

theorem own_blk' {base n : Nat} {w : World} {e : TypeId} {s : Nat} {cs : List Value} {v : Value} (h : w.ownsRow base e s v n cs) : ∀ j, v.ownBlock = some j → base ≤ j := by
  intro j hj
  rcases h.2 with ⟨h1, _⟩ | ⟨g', cap', cur, h1, h2, _⟩
  · rw [h1] at hj
    cases hj
  · rw [h1] at hj
    cases hj
    exact h2

theorem look_tabA {w : World} {m n : Nat} {D : DataW Unit} {xs : List Aks} {x : Aks} (h : w.ownsMap Tryz.prog 9 aksElem m n D) (ht : TabA D xs) (hx : x ∈ xs) (hs : x.hold.size ≤ maxLen) :
    (Instr.lookup 110 (.map (some m)) (.string x.hold) false).run Tryz.prog w = .ok (.agg #[.string x.hold, .string x.copy, .int .i64 x.first, .int .i64 x.at_]) w := by
  obtain ⟨v, ps, hrun, hv⟩ := h.lookup law_str Tryz.underlying110 (zero_ask _) (aksElem_mk ⟨⟨#[]⟩, ⟨#[]⟩, 0, 0⟩) (keyOf_string_mk Tryz.underlying9 hs)
  have hv2 : aksElem v = some (datA x, ps) := hv.trans (congrArg (fun d => some (d, ps)) (ht.at_ x hx))
  obtain ⟨z, rfl, e⟩ := aksElem_inv hv2
  have : x = z := datA_inj (congrArg Prod.fst e)
  subst this
  exact hrun

set_option maxHeartbeats 4000000 in
set_option maxRecDepth 100000 in
theorem inOrdA_any (xs : List Aks) (b n : Nat) (D : DataW Unit) (w : World) (hown : w.ownsMap Tryz.prog 9 aksElem b n D) (hn : n ≤ 2097152) (ht : TabA D xs) (ha : ascTo (xs.map (·.hold)) xs.length = true) (hz : ∀ x ∈ xs, x.hold.size ≤ maxLen) (hl : xs.length ≤ 1048576) :
    Calls Tryz.prog 81 #[.map (some b)] w fun e w' => ∃ a q, e = .returned (.slice a xs.length q) ∧ w'.ownsRow w.heap.size 61 4 (.slice a xs.length q) xs.length (rvAks xs) ∧ Below w.heap.size w w' := by
  obtain ⟨i0, hi, hz0, hz1, hz2⟩ := info_parts info_Aks
  have hsz := hown.size_le
  have HKp := keys_perm hown law_str Tryz.underlying9 (ns := xs.map (·.hold)) (by rw [List.length_map]; exact ha) (fun x => ht.mem x)
  have HO := Hid.intro hown
  have HT := Hid.intro ht
  have HA := Hid.intro ha
  have HZ := Hid.intro hz
  have HP := Hid.intro HKp
  clear hown ht ha hz HKp
  go_enter Tryz.func81, Tryz.ntmps81
  go_wp2_with fail
  refine (callsIn_wide.1 (keysAks_any (some b) _)).mono ?_
  rintro e w1 ⟨rfl, rfl⟩
  go_wp2_with fail
  refine (callsIn_wide.1 (sortedAks_any b n D aksElem w HO.out (by unfold maxLen; omega) (by omega))).mono ?_
  rintro e w2 ⟨v, ss, rfl, hS, hrow, hnil, hb2⟩
  have hsort : ss.mergeSort (fun x y => decide (x ≤ y)) = nmL (xs.map (·.hold)) := nmL_sorted (by rw [List.length_map]; exact HA.out) (hS.trans HP.out.symm)
  have hlen : ss.length = xs.length := by rw [(hS.trans HP.out.symm).length_eq]; simp [nmL]
  rw [hsort, hlen] at hrow
  have hb1 : Below w.heap.size w (w.alloc (.cells #[.map (some b)] 110)) := (Below.refl _ w).alloc (Nat.le_refl _) _
  have hB2 : Below w.heap.size w w2 := hb1.trans (hb2.mono hb1.size)
  have HO2 := Hid.intro (ownsMap_below HO.out hB2 HO.out.lt)
  have HR2 := Hid.intro hrow
  clear hb1 hb2 HO HP hS hsort
  by_cases h0 : xs = []
  · subst h0
    have hss : ss = [] := List.length_eq_zero_iff.1 hlen
    have hv : v = .slice none 0 0 := hnil.2 hss
    subst hv
    clear hnil hss hlen HR2 hrow
    go_wp2_with fail
    go_loopw [3, 10] (fun l i wr => l = .slice none 0 0 ∧ i = .int .i64 0 ∧ Below w.heap.size w wr) (fun _ i _ => 0)
    case atStart => exact ⟨rfl, rfl, hB2⟩
    case round =>
      obtain ⟨rfl, rfl, hB⟩ := hrel
      go_wp2_with fail
      go_ret
      exact ⟨none, 0, rfl, World.ownsRow_nil _ _ _ _, hB⟩
  · have hpos : 0 < xs.length := List.length_pos_iff.2 h0
    have hv : v ≠ .slice none 0 0 := fun e => by
      have := hnil.1 e
      rw [this] at hlen
      simp at hlen
      omega
    obtain ⟨g, cap, rfl⟩ := rowf HR2.out hv
    clear hnil hlen hv hrow h0 ss
    go_wp2_with fail
    go_loopw [3, 10] (fun l i wr => ∃ (k : Nat) (a : Option Addr) (q : Nat), k ≤ xs.length ∧ i = .int .i64 k ∧ l = .slice a k q ∧ Hid (wr.ownsRow w2.heap.size 61 4 (.slice a k q) k (rvAks (xs.take k))) ∧ Hid (Below w2.heap.size w2 wr)) (fun _ i _ => xs.length - (intOf i).toNat)
    case atStart => exact ⟨0, none, 0, Nat.zero_le _, rfl, rfl, World.ownsRow_nil _ _ _ _, Below.refl _ _⟩
    case round =>
      obtain ⟨k, a, q, hk, rfl, rfl, HOW, HB⟩ := hrel
      by_cases hlt : k < xs.length
      case neg =>
        have hke : k = xs.length := by omega
        subst hke
        rw [List.take_length] at HOW
        have hBf : Below w.heap.size w wr := hB2.trans (HB.out.mono hB2.size)
        have HOF := Hid.intro (ownsRow_base_a HOW.out hB2.size)
        go_wp2_with fail
        go_ret
        exact ⟨a, q, rfl, HOF.out, hBf⟩
      obtain ⟨x, hx⟩ : ∃ x, xs[k]? = some x := ⟨xs[k], List.getElem?_eq_getElem hlt⟩
      have HOr := Hid.intro (ownsMap_below HO2.out HB.out HO2.out.lt)
      have HRr := Hid.intro (ownsRow_below HR2.out HB.out)
      have yl := look_tabA HOr.out HT.out (List.mem_of_getElem? hx) (HZ.out x (List.mem_of_getElem? hx))
      have kc : wr.cell? ⟨g, k, none⟩ = some (.string x.hold) := by
        have h := HRr.out.cellAt k (by omega)
        rw [h]
        unfold nmL
        rw [List.getElem?_map, List.getElem?_map, List.getElem?_map, hx]
        show some (Value.string ⟨x.hold.toList.toArray⟩) = _
        rw [bt_back]
      have HST : Hid (xs.take (k + 1) = xs.take k ++ [x]) := by show _ = _; rw [List.take_add_one, hx]; rfl
      have i0' : (0 : Int) ≤ (k : Int) := by omega
      have i1' : (k : Int) < (xs.length : Int) := by omega
      clear hx
      obtain ⟨NV, hnv⟩ : ∃ l, l = rcAks x := ⟨_, rfl⟩
      have HNV := Hid.intro hnv
      clear hnv
      have HNL : Hid (NV.length = 1 * 4) := by show _ = _; rw [HNV.out]; rfl
      have HNN : Hid (∀ j u, NV[j]? = some u → (wr.alloc (Obj.cells #[.string x.hold, .string x.copy, .int .i64 x.first, .int .i64 x.at_] 61)).cell? ((⟨wr.heap.size, 0, none⟩ : Addr).add j) = some u) := by
        intro j u hj
        rw [Addr.add_mid]
        rw [HNV.out] at hj
        exact (Blk.alloc wr #[.string x.hold, .string x.copy, .int .i64 x.first, .int .i64 x.at_] 61).rangeA j u hj
      have HN1 : Hid (∀ u ∈ NV, u.oneCell' = true) := by
        intro u hu
        rw [HNV.out] at hu
        exact rvAks_one [x] u (by simp only [rvAks, List.append_nil]; exact hu)
      have HOA := Hid.intro (HOW.out.alloc (Obj.cells #[.string x.hold, .string x.copy, .int .i64 x.first, .int .i64 x.at_] 61))
      have hws : w2.heap.size ≤ wr.heap.size := HB.out.size
      go_wp2_with (at_builtin; refine wpList_append_own _ rfl _ _ 33 rfl w2.heap.size 61 i0 _ 4 48 Tryz.underlying33 hi hz0 hz1 hz2 rfl (by decide) _ k _ rfl HOA.out ⟨wr.heap.size, 0, none⟩ 1 1 NV rfl HNL.out HNN.out HN1.out (by unfold maxLen; omega) (by omega) (by simp; omega) ?_; intro v' w8 hown8 hgrow8 hnil8; have hv8 : v' ≠ .slice none 0 0 := (fun e => by have h9 := (hnil8.1 e).2; cases h9); obtain ⟨g8, q8, rfl⟩ := rowf hown8 hv8)
      have HO8 : Hid (w8.ownsRow w2.heap.size 61 4 (.slice (some ⟨g8, 0, none⟩) (k + 1) q8) (k + 1) (rvAks (xs.take (k + 1)))) := by
        show World.ownsRow _ _ _ _ _ _ _
        rw [HST.out, rvAks_app]
        rw [HNV.out] at hown8
        simp only [rvAks, List.append_nil]
        exact hown8
      have HB8 : Hid (Below w2.heap.size w2 w8) := (HB.out.alloc HB.out.size _).grown hgrow8 (by have := HB.out.size; simp; omega) (own_blk' HOW.out)
      clear hown8 hgrow8 hnil8 hv8 yl kc
      go_wp2_with fail
      go_roundw
      case rel => exact ⟨k + 1, some ⟨g8, 0, none⟩, q8, by omega, by go_num, rfl, HO8, HB8⟩
      case measure => simp [intOf]; omega

end Go.Proofs.YtlangcodelcncaaGreat
