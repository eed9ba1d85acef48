/-
  Copies and services that are kept, by the program. Made by mkson.py.
-/
import Derived.Test.YtfbmljdlkgiliaaGreatSrw
import Derived.Test.YtfbmljdlkgiliaaGreatBls
import Derived.Test.YtfbmljdlkgiliaaGreatSt4
import Derived.Laws.OwnMore
namespace Go.Proofs.YtfbmljdlkgiliaaGreat
open Go.RowKit

theorem own_blk {base n : Nat} {w : World} {e : TypeId} {s : Nat} {cs : List Value} {v : Value} (h : w.ownsRow base e s v n cs) : ∀ j, v.ownBlock = some j → base ≤ j := by
  intro j hj
  rcases h.2 with ⟨h1, _⟩ | ⟨g', cap', cur, h1, h2, _⟩
  · rw [h1] at hj
    cases hj
  · rw [h1] at hj
    cases hj
    exact h2

theorem filt_stepX {α : Type} {P : α → Bool} {xs : List α} {k : Nat} {x : α} (h : xs[k]? = some x) : (xs.take (k + 1)).filter P = (xs.take k).filter P ++ (if P x = true then [x] else []) := by
  rw [List.take_add_one, h, List.filter_append]
  congr 1
  simp [List.filter_cons]

theorem rvScp_app : ∀ (xs ys : List Scp), rvScp (xs ++ ys) = rvScp xs ++ rvScp ys
  | [], _ => rfl
  | x :: r, ys => by simp only [List.cons_append, rvScp, rvScp_app r ys, List.append_assoc]

theorem rvSsv_app : ∀ (xs ys : List Ssv), rvSsv (xs ++ ys) = rvSsv xs ++ rvSsv ys
  | [], _ => rfl
  | x :: r, ys => by simp only [List.cons_append, rvSsv, rvSsv_app r ys, List.append_assoc]

set_option maxHeartbeats 4000000 in
set_option maxRecDepth 100000 in
theorem onlyScp_any (f : Nat) (bd : Array Value) (P : Scp → Bool) (xs : List Scp) (a : Option Addr) (cap lo : Nat) (w : World) (hin : SliceC ScpC 7 lo w a xs) (hsm : xs.length ≤ 1048576)
    (hf : ∀ x ∈ xs, ∀ v, Below w.heap.size w v → Calls Tryz.prog f (bd ++ #[.agg #[.string x.service, .int .i64 x.number, .int .i64 x.version, .int .i64 x.image, .int .i64 x.state, .bool x.ending, .string x.berth]]) v fun e w' => e = .returned (.bool (P x)) ∧ Below v.heap.size v w') (heg : ∀ args w, (callFunc f args).run Tryz.prog w = .ok (.enter f args) w) :
    Calls Tryz.prog 68 #[.slice a xs.length cap, .func (.func f) bd #[]] w fun e w' => ∃ b q, e = .returned (.slice b (xs.filter P).length q) ∧ w'.ownsRow w.heap.size 70 7 (.slice b (xs.filter P).length q) (xs.filter P).length (rvScp (xs.filter P)) ∧ Below w.heap.size w w' := by
  obtain ⟨i0, hi, hz0, hz1, hz2⟩ := info_parts info_Scp
  have HI := Hid.intro hin
  have HF := Hid.intro hf
  clear hin hf
  go_enter Tryz.func68, Tryz.ntmps68
  go_wp2_with fail
  go_loopw [5, 10] (fun v i wr => ∃ (k : Nat) (b : Option Addr) (q m : Nat), k ≤ xs.length ∧ i = .int .i64 k ∧ v = .slice b m q ∧ Hid (m = ((xs.take k).filter P).length) ∧ m ≤ k ∧ Hid (wr.ownsRow w.heap.size 70 7 (.slice b m q) m (rvScp ((xs.take k).filter P))) ∧ Below w.heap.size w wr) (fun _ i _ => xs.length - (intOf i).toNat)
  case atStart => exact ⟨0, none, 0, 0, Nat.zero_le _, rfl, rfl, rfl, Nat.le_refl _, World.ownsRow_nil _ _ _ _, Below.refl _ _⟩
  case round =>
    obtain ⟨k, b1, q, m, hk, rfl, rfl, HML, hmk, HO, hB⟩ := hrel
    by_cases hlt : k < xs.length
    case neg =>
      have hke : k = xs.length := by omega
      subst hke
      rw [List.take_length] at HML HO
      have HE := HML.out
      subst HE
      go_wp2_with fail
      go_ret
      exact ⟨b1, q, rfl, HO.out, hB⟩
    obtain ⟨x, hx⟩ : ∃ x, xs[k]? = some x := ⟨xs[k], List.getElem?_eq_getElem hlt⟩
    obtain ⟨b, ob, rfl, _, hbl, hc⟩ := (HI.out.below ScpC.holds hB (Nat.le_refl _)).at hx
    have HRA := Hid.intro (rngScp hc)
    have HST := Hid.intro (filt_stepX (P := P) hx)
    have HXM : Hid (x ∈ xs) := List.mem_of_getElem? hx
    clear hc hx
    have hb4 : Below wr.heap.size wr (wr.alloc (Obj.cells #[.string x.service, .int .i64 x.number, .int .i64 x.version, .int .i64 x.image, .int .i64 x.state, .bool x.ending, .string x.berth] 70)) := (Below.refl _ _).alloc (Nat.le_refl _) _
    have HK4 : Hid (Blk wr.heap.size #[.string x.service, .int .i64 x.number, .int .i64 x.version, .int .i64 x.image, .int .i64 x.state, .bool x.ending, .string x.berth] 70 (wr.alloc (Obj.cells #[.string x.service, .int .i64 x.number, .int .i64 x.version, .int .i64 x.image, .int .i64 x.state, .bool x.ending, .string x.berth] 70))) := Blk.alloc _ _ _
    have HO4 := Hid.intro (ownsRow_below HO.out hb4)
    have hB4 := hB.trans (hb4.mono hB.size)
    clear hb4 HO hB
    go_upto_region 5 with (refine wpList_load_mid rfl 70 _ rfl b (ob + k * 7) (by first | rfl | (simp [go_sem]; done)) [.string x.service, .int .i64 x.number, .int .i64 x.version, .int .i64 x.image, .int .i64 x.state, .bool x.ending, .string x.berth] _ HRA.out Tryz.underlying70 rfl isz_Scp ?_)
    clear HRA
    generalize wr.alloc (Obj.cells #[.string x.service, .int .i64 x.number, .int .i64 x.version, .int .i64 x.image, .int .i64 x.state, .bool x.ending, .string x.berth] 70) = w4 at *
    generalize wr.heap.size = p at *
    go_wp2_with (refine wpList_load_mid rfl 70 _ rfl p 0 rfl [.string x.service, .int .i64 x.number, .int .i64 x.version, .int .i64 x.image, .int .i64 x.state, .bool x.ending, .string x.berth] _ HK4.out.rangeA Tryz.underlying70 rfl isz_Scp ?_)
    refine (HF.out x HXM.out _ hB4).mono ?_
    rintro e w5 ⟨rfl, hb5⟩
    have HK5 := Hid.intro (HK4.out.below hb5 HK4.out.lt)
    have HO5 := Hid.intro (ownsRow_below HO4.out hb5)
    have hB5 := hB4.trans (hb5.mono hB4.size)
    clear hb5 hB4 HO4 HK4
    cases hP : P x with
    | false =>
      have HO6 : Hid (w5.ownsRow w.heap.size 70 7 (.slice b1 m q) m (rvScp ((xs.take (k + 1)).filter P))) := by
        show World.ownsRow _ _ _ _ _ _ _
        rw [HST.out, hP, if_neg (by simp), List.append_nil]
        exact HO5.out
      have HML2 : Hid (m = ((xs.take (k + 1)).filter P).length) := by
        show _ = _
        rw [HST.out, hP, if_neg (by simp), List.append_nil]
        exact HML.out
      clear hP HO5
      go_wp2_with fail
      go_roundw
      case rel => exact ⟨k + 1, b1, q, m, by omega, by go_num, rfl, HML2, by omega, HO6, hB5⟩
      case measure => simp [intOf]; omega
    | true =>
      obtain ⟨NV, hnv⟩ : ∃ l, l = rcScp x := ⟨_, rfl⟩
      have HNV := Hid.intro hnv
      clear hnv
      have HNL : Hid (NV.length = 1 * 7) := by show _ = _; rw [HNV.out]; rfl
      have HNN : Hid (∀ j u, NV[j]? = some u → (w5.alloc (Obj.cells #[.string x.service, .int .i64 x.number, .int .i64 x.version, .int .i64 x.image, .int .i64 x.state, .bool x.ending, .string x.berth] 70)).cell? ((⟨w5.heap.size, 0, none⟩ : Addr).add j) = some u) := by
        intro j u hj
        rw [Addr.add_mid]
        rw [HNV.out] at hj
        exact (Blk.alloc w5 #[.string x.service, .int .i64 x.number, .int .i64 x.version, .int .i64 x.image, .int .i64 x.state, .bool x.ending, .string x.berth] 70).rangeA j u hj
      have HN1 : Hid (∀ u ∈ NV, u.oneCell' = true) := by
        intro u hu
        rw [HNV.out] at hu
        exact rvScp_one [x] u (by simp only [rvScp, List.append_nil]; exact hu)
      have HOA := Hid.intro (HO5.out.alloc (Obj.cells #[.string x.service, .int .i64 x.number, .int .i64 x.version, .int .i64 x.image, .int .i64 x.state, .bool x.ending, .string x.berth] 70))
      have hws : w.heap.size ≤ w5.heap.size := hB5.size
      go_wp2_with (first | (refine wpList_load_mid rfl 70 _ rfl p 0 rfl [.string x.service, .int .i64 x.number, .int .i64 x.version, .int .i64 x.image, .int .i64 x.state, .bool x.ending, .string x.berth] _ HK5.out.rangeA Tryz.underlying70 rfl isz_Scp ?_) | (at_builtin; refine wpList_append_own _ rfl _ _ 30 rfl w.heap.size 70 i0 _ 7 72 Tryz.underlying30 hi hz0 hz1 hz2 rfl (by decide) _ m _ rfl HOA.out ⟨w5.heap.size, 0, none⟩ 1 1 NV rfl HNL.out HNN.out HN1.out (by unfold maxLen; omega) (by omega) (by simp; omega) ?_; intro v' w8 hown8 hgrow8 hnil8; have hv8 : v' ≠ .slice none 0 0 := (fun e => by have h9 := (hnil8.1 e).2; cases h9); obtain ⟨g8, q8, rfl⟩ := rowf hown8 hv8))
      have HO8 : Hid (w8.ownsRow w.heap.size 70 7 (.slice (some ⟨g8, 0, none⟩) (m + 1) q8) (m + 1) (rvScp ((xs.take (k + 1)).filter P))) := by
        show World.ownsRow _ _ _ _ _ _ _
        rw [HST.out, hP, if_pos rfl, rvScp_app]
        rw [HNV.out] at hown8
        simp only [rvScp, List.append_nil]
        exact hown8
      have HML2 : Hid (m + 1 = ((xs.take (k + 1)).filter P).length) := by
        show _ = _
        rw [HST.out, hP, if_pos rfl, List.length_append]
        rw [← HML.out]
        rfl
      have hB8 : Below w.heap.size w w8 := (hB5.alloc hB5.size _).grown hgrow8 (by have := hB5.size; simp; omega) (own_blk HO5.out)
      clear hown8 hgrow8 hnil8 hv8 hP
      go_wp2_with fail
      go_roundw
      case rel => exact ⟨k + 1, some ⟨g8, 0, none⟩, q8, m + 1, by omega, by go_num, rfl, HML2, by omega, HO8, hB8⟩
      case measure => simp [intOf]; omega


set_option maxHeartbeats 4000000 in
set_option maxRecDepth 100000 in
theorem onlySsv_any (f : Nat) (bd : Array Value) (P : Ssv → Bool) (xs : List Ssv) (a : Option Addr) (cap lo : Nat) (w : World) (hin : SliceC SsvC 13 lo w a xs) (hsm : xs.length ≤ 1048576)
    (hf : ∀ x ∈ xs, ∀ v, Below w.heap.size w v → Calls Tryz.prog f (bd ++ #[.agg #[.string x.name, .int .i64 x.version, .bool x.gone, .int .i64 x.image, .int .i64 x.want, .int .i64 x.down, .int .i64 x.over, .int .i64 x.next, .int .i64 x.per, .int .i64 x.least, .int .i64 x.most, .int .i64 x.load, .int .i64 x.cool]]) v fun e w' => e = .returned (.bool (P x)) ∧ Below v.heap.size v w') (heg : ∀ args w, (callFunc f args).run Tryz.prog w = .ok (.enter f args) w) :
    Calls Tryz.prog 71 #[.slice a xs.length cap, .func (.func f) bd #[]] w fun e w' => ∃ b q, e = .returned (.slice b (xs.filter P).length q) ∧ w'.ownsRow w.heap.size 46 13 (.slice b (xs.filter P).length q) (xs.filter P).length (rvSsv (xs.filter P)) ∧ Below w.heap.size w w' := by
  obtain ⟨i0, hi, hz0, hz1, hz2⟩ := info_parts info_Ssv
  have HI := Hid.intro hin
  have HF := Hid.intro hf
  clear hin hf
  go_enter Tryz.func71, Tryz.ntmps71
  go_wp2_with fail
  go_loopw [5, 10] (fun v i wr => ∃ (k : Nat) (b : Option Addr) (q m : Nat), k ≤ xs.length ∧ i = .int .i64 k ∧ v = .slice b m q ∧ Hid (m = ((xs.take k).filter P).length) ∧ m ≤ k ∧ Hid (wr.ownsRow w.heap.size 46 13 (.slice b m q) m (rvSsv ((xs.take k).filter P))) ∧ Below w.heap.size w wr) (fun _ i _ => xs.length - (intOf i).toNat)
  case atStart => exact ⟨0, none, 0, 0, Nat.zero_le _, rfl, rfl, rfl, Nat.le_refl _, World.ownsRow_nil _ _ _ _, Below.refl _ _⟩
  case round =>
    obtain ⟨k, b1, q, m, hk, rfl, rfl, HML, hmk, HO, hB⟩ := hrel
    by_cases hlt : k < xs.length
    case neg =>
      have hke : k = xs.length := by omega
      subst hke
      rw [List.take_length] at HML HO
      have HE := HML.out
      subst HE
      go_wp2_with fail
      go_ret
      exact ⟨b1, q, rfl, HO.out, hB⟩
    obtain ⟨x, hx⟩ : ∃ x, xs[k]? = some x := ⟨xs[k], List.getElem?_eq_getElem hlt⟩
    obtain ⟨b, ob, rfl, _, hbl, hc⟩ := (HI.out.below SsvC.holds hB (Nat.le_refl _)).at hx
    have HRA := Hid.intro (rngSsv hc)
    have HST := Hid.intro (filt_stepX (P := P) hx)
    have HXM : Hid (x ∈ xs) := List.mem_of_getElem? hx
    clear hc hx
    have hb4 : Below wr.heap.size wr (wr.alloc (Obj.cells #[.string x.name, .int .i64 x.version, .bool x.gone, .int .i64 x.image, .int .i64 x.want, .int .i64 x.down, .int .i64 x.over, .int .i64 x.next, .int .i64 x.per, .int .i64 x.least, .int .i64 x.most, .int .i64 x.load, .int .i64 x.cool] 46)) := (Below.refl _ _).alloc (Nat.le_refl _) _
    have HK4 : Hid (Blk wr.heap.size #[.string x.name, .int .i64 x.version, .bool x.gone, .int .i64 x.image, .int .i64 x.want, .int .i64 x.down, .int .i64 x.over, .int .i64 x.next, .int .i64 x.per, .int .i64 x.least, .int .i64 x.most, .int .i64 x.load, .int .i64 x.cool] 46 (wr.alloc (Obj.cells #[.string x.name, .int .i64 x.version, .bool x.gone, .int .i64 x.image, .int .i64 x.want, .int .i64 x.down, .int .i64 x.over, .int .i64 x.next, .int .i64 x.per, .int .i64 x.least, .int .i64 x.most, .int .i64 x.load, .int .i64 x.cool] 46))) := Blk.alloc _ _ _
    have HO4 := Hid.intro (ownsRow_below HO.out hb4)
    have hB4 := hB.trans (hb4.mono hB.size)
    clear hb4 HO hB
    go_upto_region 5 with (refine wpList_load_mid rfl 46 _ rfl b (ob + k * 13) (by first | rfl | (simp [go_sem]; done)) [.string x.name, .int .i64 x.version, .bool x.gone, .int .i64 x.image, .int .i64 x.want, .int .i64 x.down, .int .i64 x.over, .int .i64 x.next, .int .i64 x.per, .int .i64 x.least, .int .i64 x.most, .int .i64 x.load, .int .i64 x.cool] _ HRA.out Tryz.underlying46 rfl isz_Ssv ?_)
    clear HRA
    generalize wr.alloc (Obj.cells #[.string x.name, .int .i64 x.version, .bool x.gone, .int .i64 x.image, .int .i64 x.want, .int .i64 x.down, .int .i64 x.over, .int .i64 x.next, .int .i64 x.per, .int .i64 x.least, .int .i64 x.most, .int .i64 x.load, .int .i64 x.cool] 46) = w4 at *
    generalize wr.heap.size = p at *
    go_wp2_with (refine wpList_load_mid rfl 46 _ rfl p 0 rfl [.string x.name, .int .i64 x.version, .bool x.gone, .int .i64 x.image, .int .i64 x.want, .int .i64 x.down, .int .i64 x.over, .int .i64 x.next, .int .i64 x.per, .int .i64 x.least, .int .i64 x.most, .int .i64 x.load, .int .i64 x.cool] _ HK4.out.rangeA Tryz.underlying46 rfl isz_Ssv ?_)
    refine (HF.out x HXM.out _ hB4).mono ?_
    rintro e w5 ⟨rfl, hb5⟩
    have HK5 := Hid.intro (HK4.out.below hb5 HK4.out.lt)
    have HO5 := Hid.intro (ownsRow_below HO4.out hb5)
    have hB5 := hB4.trans (hb5.mono hB4.size)
    clear hb5 hB4 HO4 HK4
    cases hP : P x with
    | false =>
      have HO6 : Hid (w5.ownsRow w.heap.size 46 13 (.slice b1 m q) m (rvSsv ((xs.take (k + 1)).filter P))) := by
        show World.ownsRow _ _ _ _ _ _ _
        rw [HST.out, hP, if_neg (by simp), List.append_nil]
        exact HO5.out
      have HML2 : Hid (m = ((xs.take (k + 1)).filter P).length) := by
        show _ = _
        rw [HST.out, hP, if_neg (by simp), List.append_nil]
        exact HML.out
      clear hP HO5
      go_wp2_with fail
      go_roundw
      case rel => exact ⟨k + 1, b1, q, m, by omega, by go_num, rfl, HML2, by omega, HO6, hB5⟩
      case measure => simp [intOf]; omega
    | true =>
      obtain ⟨NV, hnv⟩ : ∃ l, l = rcSsv x := ⟨_, rfl⟩
      have HNV := Hid.intro hnv
      clear hnv
      have HNL : Hid (NV.length = 1 * 13) := by show _ = _; rw [HNV.out]; rfl
      have HNN : Hid (∀ j u, NV[j]? = some u → (w5.alloc (Obj.cells #[.string x.name, .int .i64 x.version, .bool x.gone, .int .i64 x.image, .int .i64 x.want, .int .i64 x.down, .int .i64 x.over, .int .i64 x.next, .int .i64 x.per, .int .i64 x.least, .int .i64 x.most, .int .i64 x.load, .int .i64 x.cool] 46)).cell? ((⟨w5.heap.size, 0, none⟩ : Addr).add j) = some u) := by
        intro j u hj
        rw [Addr.add_mid]
        rw [HNV.out] at hj
        exact (Blk.alloc w5 #[.string x.name, .int .i64 x.version, .bool x.gone, .int .i64 x.image, .int .i64 x.want, .int .i64 x.down, .int .i64 x.over, .int .i64 x.next, .int .i64 x.per, .int .i64 x.least, .int .i64 x.most, .int .i64 x.load, .int .i64 x.cool] 46).rangeA j u hj
      have HN1 : Hid (∀ u ∈ NV, u.oneCell' = true) := by
        intro u hu
        rw [HNV.out] at hu
        exact rvSsv_one [x] u (by simp only [rvSsv, List.append_nil]; exact hu)
      have HOA := Hid.intro (HO5.out.alloc (Obj.cells #[.string x.name, .int .i64 x.version, .bool x.gone, .int .i64 x.image, .int .i64 x.want, .int .i64 x.down, .int .i64 x.over, .int .i64 x.next, .int .i64 x.per, .int .i64 x.least, .int .i64 x.most, .int .i64 x.load, .int .i64 x.cool] 46))
      have hws : w.heap.size ≤ w5.heap.size := hB5.size
      go_wp2_with (first | (refine wpList_load_mid rfl 46 _ rfl p 0 rfl [.string x.name, .int .i64 x.version, .bool x.gone, .int .i64 x.image, .int .i64 x.want, .int .i64 x.down, .int .i64 x.over, .int .i64 x.next, .int .i64 x.per, .int .i64 x.least, .int .i64 x.most, .int .i64 x.load, .int .i64 x.cool] _ HK5.out.rangeA Tryz.underlying46 rfl isz_Ssv ?_) | (at_builtin; refine wpList_append_own _ rfl _ _ 29 rfl w.heap.size 46 i0 _ 13 112 Tryz.underlying29 hi hz0 hz1 hz2 rfl (by decide) _ m _ rfl HOA.out ⟨w5.heap.size, 0, none⟩ 1 1 NV rfl HNL.out HNN.out HN1.out (by unfold maxLen; omega) (by omega) (by simp; omega) ?_; intro v' w8 hown8 hgrow8 hnil8; have hv8 : v' ≠ .slice none 0 0 := (fun e => by have h9 := (hnil8.1 e).2; cases h9); obtain ⟨g8, q8, rfl⟩ := rowf hown8 hv8))
      have HO8 : Hid (w8.ownsRow w.heap.size 46 13 (.slice (some ⟨g8, 0, none⟩) (m + 1) q8) (m + 1) (rvSsv ((xs.take (k + 1)).filter P))) := by
        show World.ownsRow _ _ _ _ _ _ _
        rw [HST.out, hP, if_pos rfl, rvSsv_app]
        rw [HNV.out] at hown8
        simp only [rvSsv, List.append_nil]
        exact hown8
      have HML2 : Hid (m + 1 = ((xs.take (k + 1)).filter P).length) := by
        show _ = _
        rw [HST.out, hP, if_pos rfl, List.length_append]
        rw [← HML.out]
        rfl
      have hB8 : Below w.heap.size w w8 := (hB5.alloc hB5.size _).grown hgrow8 (by have := hB5.size; simp; omega) (own_blk HO5.out)
      clear hown8 hgrow8 hnil8 hv8 hP
      go_wp2_with fail
      go_roundw
      case rel => exact ⟨k + 1, some ⟨g8, 0, none⟩, q8, m + 1, by omega, by go_num, rfl, HML2, by omega, HO8, hB8⟩
      case measure => simp [intOf]; omega

end Go.Proofs.YtfbmljdlkgiliaaGreat
