import Derived.Test.YtnggdpjfmpjlhaaGreatTkw
import Derived.Test.YtnggdpjfmpjlhaaGreatSi4
namespace Go.Proofs.YtnggdpjfmpjlhaaGreat
open Go.RowKit

def orI (a b : Int) : Int := if a = 0 then b else a

set_option maxHeartbeats 1000000 in
set_option maxRecDepth 100000 in
theorem cmpOr_any (a b : Int) (g : Nat) (w : World) (h0 : w.cell? ⟨g, 0, none⟩ = some (.int .i64 a)) (h1 : w.cell? ⟨g, 1, none⟩ = some (.int .i64 b)) :
  Calls Tryz.prog 142 #[.slice (some ⟨g, 0, none⟩) 2 2] w fun e w' => e = .returned (.int .i64 (orI a b)) ∧ w' = w := by
 go_enter Tryz.func142, Tryz.ntmps142
 go_wp2_with fail
 go_loop [8] (fun i => ∃ k : Nat, i = .int .i64 k ∧ Hid (k = 0 ∨ (k = 1 ∧ a = 0) ∨ (k = 2 ∧ a = 0 ∧ b = 0))) (fun i => 2 - (intOf i).toNat)
 case atStart => exact ⟨0, rfl, .inl rfl⟩
 case round =>
  obtain ⟨k, rfl, HC⟩ := hrel
  rcases HC.out with c | ⟨c, ca⟩ | ⟨c, ca, cb⟩
  ·subst c
   by_cases ha : a = 0
   ·have hb : (a == 0) = true := by simpa using ha
    have HA := Hid.intro ha
    clear ha
    go_wp2_with fail
    go_round
    case rel => exact ⟨1, rfl, .inr (.inl ⟨rfl, HA.out⟩)⟩
    case measure => simp [intOf]
   ·have HE : Hid (orI a b = a) := if_neg ha
    have hb : (a == 0) = false := by simpa using ha
    go_wp2_with fail
    go_ret
    exact ⟨ret_int HE.out.symm, rfl⟩
  ·subst c
   have HA := Hid.intro ca
   have HO : Hid (orI a b = b) := if_pos ca
   clear ca
   by_cases hb : b = 0
   ·have hb2 : (b == 0) = true := by simpa using hb
    have HB := Hid.intro hb
    clear hb
    go_wp2_with fail
    go_round
    case rel => exact ⟨2, rfl, .inr (.inr ⟨rfl, HA.out, HB.out⟩)⟩
    case measure => simp [intOf]
   ·have hb2 : (b == 0) = false := by simpa using hb
    go_wp2_with fail
    go_ret
    exact ⟨ret_int HO.out.symm, rfl⟩
  ·subst c
   have HO : Hid (orI a b = 0) := by show _ = _; unfold orI; rw [if_pos ca, cb]
   clear ca cb
   go_wp2_with fail
   go_ret
   exact ⟨ret_int HO.out.symm, rfl⟩

def cmC (x y : Scp) : Int := orI (Lib.compareBytes x.service.data.toList y.service.data.toList) (cmpI x.number y.number)

theorem cmC_ah (x y : Scp) : decide (0 ≤ cmC x y) = !ahB x y := by
 unfold cmC ahB orI cmpI
 rw [ByteArray.toList_eq, ByteArray.toList_eq]
 rcases cmpL_cases x.service.data.toList y.service.data.toList with ⟨e1, e2, e3, e4⟩ | ⟨e1, e2, e3, e4⟩ | ⟨e1, e2, e3, e4⟩
 ·rw [e1, e2]; rfl
 ·rw [e1, e2, e4]
  simp
  by_cases h : x.number < y.number
  ·simp [h]
  ·by_cases h2 : y.number < x.number
   ·simp [h, h2]
   ·simp [h, h2]
 ·rw [e1, e2]
  simp
  exact .inl (fun h => e4 (by rw [h]))

set_option maxHeartbeats 4000000 in
set_option maxRecDepth 100000 in
theorem cmpCopies_any (x y : Scp) (w : World) :
  Calls Tryz.prog 133 #[.agg #[.string x.service, .int .i64 x.number, .int .i64 x.version, .int .i64 x.image, .int .i64 x.state, .bool x.ending, .string x.berth], .agg #[.string y.service, .int .i64 y.number, .int .i64 y.version, .int .i64 y.image, .int .i64 y.state, .bool y.ending, .string y.berth]] w fun e w' => e = .returned (.int .i64 (cmC x y)) ∧ Below w.heap.size w w' := by
 have HXa : Blk w.heap.size #[.string x.service, .int .i64 x.number, .int .i64 x.version, .int .i64 x.image, .int .i64 x.state, .bool x.ending, .string x.berth] 87 (w.alloc (.cells #[.string x.service, .int .i64 x.number, .int .i64 x.version, .int .i64 x.image, .int .i64 x.state, .bool x.ending, .string x.berth] 87)) := Blk.alloc _ _ _
 have HY1 : Hid (Blk (w.heap.size + 1) #[.string y.service, .int .i64 y.number, .int .i64 y.version, .int .i64 y.image, .int .i64 y.state, .bool y.ending, .string y.berth] 87 ((w.alloc (.cells #[.string x.service, .int .i64 x.number, .int .i64 x.version, .int .i64 x.image, .int .i64 x.state, .bool x.ending, .string x.berth] 87)).alloc (.cells #[.string y.service, .int .i64 y.number, .int .i64 y.version, .int .i64 y.image, .int .i64 y.state, .bool y.ending, .string y.berth] 87))) := by
  have := Blk.alloc (w.alloc (.cells #[.string x.service, .int .i64 x.number, .int .i64 x.version, .int .i64 x.image, .int .i64 x.state, .bool x.ending, .string x.berth] 87)) #[.string y.service, .int .i64 y.number, .int .i64 y.version, .int .i64 y.image, .int .i64 y.state, .bool y.ending, .string y.berth] 87
  show Blk _ _ _ _
  simpa using this
 have HX1 : Hid (Blk w.heap.size #[.string x.service, .int .i64 x.number, .int .i64 x.version, .int .i64 x.image, .int .i64 x.state, .bool x.ending, .string x.berth] 87 ((w.alloc (.cells #[.string x.service, .int .i64 x.number, .int .i64 x.version, .int .i64 x.image, .int .i64 x.state, .bool x.ending, .string x.berth] 87)).alloc (.cells #[.string y.service, .int .i64 y.number, .int .i64 y.version, .int .i64 y.image, .int .i64 y.state, .bool y.ending, .string y.berth] 87))) := HXa.below ((Below.refl _ _).alloc (Nat.le_refl _) _) HXa.lt
 have hB1 : Below w.heap.size w ((w.alloc (.cells #[.string x.service, .int .i64 x.number, .int .i64 x.version, .int .i64 x.image, .int .i64 x.state, .bool x.ending, .string x.berth] 87)).alloc (.cells #[.string y.service, .int .i64 y.number, .int .i64 y.version, .int .i64 y.image, .int .i64 y.state, .bool y.ending, .string y.berth] 87)) := by go_grown
 clear HXa
 go_enter Tryz.func133, Tryz.ntmps133
 go_upto_region 1 with fail
 generalize (w.alloc (Obj.cells #[.string x.service, .int .i64 x.number, .int .i64 x.version, .int .i64 x.image, .int .i64 x.state, .bool x.ending, .string x.berth] 87)).alloc (Obj.cells #[.string y.service, .int .i64 y.number, .int .i64 y.version, .int .i64 y.image, .int .i64 y.state, .bool y.ending, .string y.berth] 87) = w1 at *
 refine wp_region_held_drew (S := fun wy => Blk w.heap.size #[.string x.service, .int .i64 x.number, .int .i64 x.version, .int .i64 x.image, .int .i64 x.state, .bool x.ending, .string x.berth] 87 wy ∧ Blk (w.heap.size + 1) #[.string y.service, .int .i64 y.number, .int .i64 y.version, .int .i64 y.image, .int .i64 y.state, .bool y.ending, .string y.berth] 87 wy) (by kernel_rfl) ⟨HX1.out.drew, HY1.out.drew⟩ (fun hS => ?_)
 have hB2 : Below w.heap.size w w1.drew := hB1.drew
 clear HX1 HY1 hB1
 generalize w1.drew = w2 at *
 refine tz 0 5 (.pointer (some ⟨w.heap.size, 0, none⟩)) rfl hS ?_
 simp only [pA,pB,pC,pD]
 refine tl 1 6 (.string x.service) ⟨w.heap.size, 0, none⟩ rfl (fun wy hy => hy.1.cell rfl) hS ?_
 simp only [pA,pB,pC,pD]
 refine tz 2 7 (.pointer (some ⟨w.heap.size + 1, 0, none⟩)) rfl hS ?_
 simp only [pA,pB,pC,pD]
 refine tl 3 8 (.string y.service) ⟨w.heap.size + 1, 0, none⟩ rfl (fun wy hy => hy.2.cell rfl) hS ?_
 simp only [pA,pB,pC,pD]
 refine tz 5 10 (.pointer (some ⟨w.heap.size, 1, none⟩)) rfl hS ?_
 simp only [pA,pB,pC,pD]
 refine tl 6 11 (.int .i64 x.number) ⟨w.heap.size, 1, none⟩ rfl (fun wy hy => hy.1.cell rfl) hS ?_
 simp only [pA,pB,pC,pD]
 refine tz 7 12 (.pointer (some ⟨w.heap.size + 1, 1, none⟩)) rfl hS ?_
 simp only [pA,pB,pC,pD]
 refine tl 8 13 (.int .i64 y.number) ⟨w.heap.size + 1, 1, none⟩ rfl (fun wy hy => hy.2.cell rfl) hS ?_
 simp only [pA,pB,pC,pD]
 refine rd1 4 ⟨some 9, _, _, _, _, none⟩ rfl (fun K hK => ?_)
 go_simp
 refine (strCmp_any x.service y.service _).mono ?_
 rintro e w3 ⟨rfl, rfl⟩
 refine hK.out _ _ hS (fun hS => ?_)
 clear hK K
 refine rd1 9 ⟨some 14, _, _, _, _, none⟩ rfl (fun K hK => ?_)
 go_simp
 refine (cmpInt_any x.number y.number _).mono ?_
 rintro e w4 ⟨rfl, rfl⟩
 refine hK.out _ _ hS (fun hS => ?_)
 clear hK K
 refine rd1 10 ⟨some 15, _, _, _, _, none⟩ rfl (fun K hK => ?_)
 go_simp
 generalize hca : Lib.compareBytes x.service.data.toList y.service.data.toList = ca at *
 generalize hcb : cmpI x.number y.number = cb at *
 have HCA := Hid.intro hca
 have HCB := Hid.intro hcb
 clear hca hcb
 have HS3 : Hid (Blk w4.heap.size #[.int .i64 ca, .int .i64 cb] 3 (w4.alloc (Obj.cells #[.int .i64 ca, .int .i64 cb] 3))) := Blk.alloc _ _ _
 have hB3 : Below w.heap.size w (w4.alloc (Obj.cells #[.int .i64 ca, .int .i64 cb] 3)) := hB2.alloc hB2.size _
 refine hK.out _ _ ⟨hS.1.below ((Below.refl _ w4).alloc (Nat.le_refl _) _) hS.1.lt, hS.2.below ((Below.refl _ w4).alloc (Nat.le_refl _) _) hS.2.lt⟩ (fun hS => ?_)
 clear hK K hB2
 generalize w4.alloc (Obj.cells #[.int .i64 ca, .int .i64 cb] 3) = w5 at *
 generalize w4.heap.size = g at *
 refine rd1 11 ⟨some 16, _, _, _, _, none⟩ rfl (fun K hK => ?_)
 go_simp
 refine (cmpOr_any ca cb g _ (HS3.out.cell rfl) (HS3.out.cell rfl)).mono ?_
 rintro e w6 ⟨rfl, rfl⟩
 refine hK.out _ _ hS (fun hS => ?_)
 clear hK K
 refine tz 12 4 (.int .i64 (orI ca cb)) rfl hS ?_
 simp only [pA,pB,pC,pD]
 refine wpAnyH_done (by kernel_rfl) ?_ _
 clear hS
 go_wp2_with fail
 go_ret
 exact ⟨ret_int (by unfold cmC; rw [HCA.out, HCB.out]), hB3⟩

def acAt (xs : List Scp) : Nat → Bool
 | 0 => true
 | m + 1 => match xs[m]?, xs[m + 1]? with
  | some u, some v => ahB u v
  | _, _ => true

def acTo (xs : List Scp) : Nat → Bool
 | 0 => true
 | k + 1 => acTo xs k && acAt xs k

theorem acTo_false {xs : List Scp} {k : Nat} (h : acAt xs k = false) : ∀ n, k < n → acTo xs n = false
 | 0, hn => absurd hn (Nat.not_lt_zero _)
 | n + 1, hn => by
  by_cases e : k = n
  ·subst e; simp only [acTo, h, Bool.and_false]
  ·simp only [acTo, acTo_false h n (by omega), Bool.false_and]

theorem acAt_at {xs : List Scp} {m : Nat} {u v : Scp} (h : xs[m]? = some u) (h2 : xs[m + 1]? = some v) : acAt xs (m + 1) = ahB u v := by
 simp only [acAt, h, h2]

theorem acTo_all {xs : List Scp} : ∀ n, acTo xs n = true → ∀ k, k < n → acAt xs k = true
 | 0, _, k, hk => by omega
 | n + 1, h, k, hk => by
  simp only [acTo, Bool.and_eq_true] at h
  by_cases e : k = n
  ·subst e; exact h.2
  ·exact acTo_all n h.1 k (by omega)

theorem acTo_yes {xs : List Scp} : ∀ n, (∀ k, k < n → acAt xs k = true) → acTo xs n = true
 | 0, _ => rfl
 | n + 1, h => by
  simp only [acTo, Bool.and_eq_true]
  exact ⟨acTo_yes n (fun k hk => h k (by omega)), h n (by omega)⟩

set_option maxHeartbeats 4000000 in
set_option maxRecDepth 100000 in
theorem ascC_any (xs : List Scp) (a : Option Addr) (cap lo : Nat) (w : World) (hin : SliceC ScpC 7 lo w a xs) (hsm : xs.length ≤ 1048576) :
  Calls Tryz.prog 107 #[.slice a xs.length cap] w fun e w' => e = .returned (.bool (acTo xs xs.length)) ∧ Below w.heap.size w w' := by
 have HI := Hid.intro hin
 clear hin
 go_enter Tryz.func107, Tryz.ntmps107
 go_wp2_with fail
 go_loopw [3] (fun i wr => ∃ m : Nat, (m = 0 ∨ m + 1 ≤ xs.length) ∧ i = .int .i64 ((m : Int) + 1) ∧ Hid (acTo xs (m + 1) = true) ∧ Below w.heap.size w wr) (fun i _ => xs.length + 1 - (intOf i).toNat)
 case atStart => exact ⟨0, .inl rfl, rfl, rfl, by go_grown⟩
 case round =>
  obtain ⟨m, hm, rfl, ho, hbel⟩ := hrel
  by_cases hlt : m + 1 < xs.length
  case neg =>
   have HE : Hid (acTo xs xs.length = true) := by
    rcases (show m + 1 = xs.length ∨ xs.length = 0 by omega) with e | e
    ·rw [← e]; exact ho.out
    ·rw [e]; rfl
   go_wp2_with fail
   go_ret
   exact ⟨ret_bool HE.out.symm, hbel⟩
  obtain ⟨x, hx⟩ : ∃ x, xs[m]? = some x := ⟨xs[m], List.getElem?_eq_getElem (by omega)⟩
  obtain ⟨y, hy⟩ : ∃ y, xs[m + 1]? = some y := ⟨xs[m + 1], List.getElem?_eq_getElem (by omega)⟩
  have HIR := HI.out.below ScpC.holds hbel (Nat.le_refl _)
  obtain ⟨b, o, ea, _, hbl, hc⟩ := HIR.at hx
  obtain ⟨b', o', e', _, _, hc'⟩ := HIR.at hy
  subst ea
  cases e'
  have HRX := Hid.intro (rngScp hc)
  have HRY := Hid.intro (rngScp hc')
  have HA := Hid.intro (acAt_at hx hy)
  have HWM : Hid (IntKind.i64.wrap (m : Int) = (m : Int)) := by show _ = _; rw [IntKind.wrap_i64]; omega
  have i0 : (0 : Int) ≤ (m : Int) := by omega
  have i1 : (m : Int) < (xs.length : Int) := by omega
  have i2 : (0 : Int) ≤ (m : Int) + 1 := by omega
  have i3 : (m : Int) + 1 < (xs.length : Int) := by omega
  have i4 : m < xs.length := by omega
  have i5 : ((m : Int) + 1).toNat = m + 1 := by omega
  clear HIR hc hc' hx hy
  go_wp2_with fail
  refine wp_region_held_drew (S := fun wy => wy.rangeAt b (o + m * 7) [.string x.service, .int .i64 x.number, .int .i64 x.version, .int .i64 x.image, .int .i64 x.state, .bool x.ending, .string x.berth] ∧ wy.rangeAt b (o + (m + 1) * 7) [.string y.service, .int .i64 y.number, .int .i64 y.version, .int .i64 y.image, .int .i64 y.state, .bool y.ending, .string y.berth]) (by kernel_rfl) ⟨HRX.out, HRY.out⟩ (fun hS => ?_)
  have hB2 : Below w.heap.size w wr.drew := hbel.drew
  replace hbl : b < wr.drew.heap.size := hbl
  clear hbel HRX HRY
  generalize wr.drew = w2 at *
  refine tz 0 10 (.slice (some ⟨b, o, none⟩) xs.length cap) rfl hS ?_
  simp only [pA,pB,pC,pD]
  refine tz 1 11 (.int .i64 ((m : Int) + 1)) rfl hS ?_
  simp only [pA,pB,pC,pD]
  refine ty 2 ⟨some 12, _, _, _, _, none⟩ (.int .i64 (m : Int)) rfl (by rfl) ?_ hS ?_
  ·intro wy hy
   clear hy
   (go_simp; rw [IntKind.wrap_i64]; omega)
  simp only [pA,pB,pC,pD]
  refine tz 3 13 (.pointer (some ⟨b, o + m * 7, none⟩)) rfl hS ?_
  simp only [pA,pB,pC,pD]
  refine tm 4 14 b (o + m * 7) [.string x.service, .int .i64 x.number, .int .i64 x.version, .int .i64 x.image, .int .i64 x.state, .bool x.ending, .string x.berth] rfl (fun _ h => h.1) Tryz.underlying87 isz_Scp hS ?_
  simp only [pA,pB,pC,pD]
  refine tz 5 15 (.slice (some ⟨b, o, none⟩) xs.length cap) rfl hS ?_
  simp only [pA,pB,pC,pD]
  refine tz 6 16 (.int .i64 ((m : Int) + 1)) rfl hS ?_
  simp only [pA,pB,pC,pD]
  refine tz 7 17 (.pointer (some ⟨b, o + (m + 1) * 7, none⟩)) rfl hS ?_
  simp only [pA,pB,pC,pD]
  refine tk 8 ⟨some 18, _, _, _, _, none⟩ (.agg #[.string y.service, .int .i64 y.number, .int .i64 y.version, .int .i64 y.image, .int .i64 y.state, .bool y.ending, .string y.berth]) rfl (yieldsIf_load_mid (by rfl) _ _ rfl b (o + (m + 1) * 7) rfl [.string y.service, .int .i64 y.number, .int .i64 y.version, .int .i64 y.image, .int .i64 y.state, .bool y.ending, .string y.berth] _ (fun _ h => h.2) Tryz.underlying87 rfl isz_Scp) hS ?_
  simp only [pA,pB,pC,pD]
  refine rd1 9 ⟨some 19, _, _, _, _, none⟩ rfl (fun K hK => ?_)
  go_simp
  refine (cmpCopies_any x y _).mono ?_
  rintro e w3 ⟨rfl, hb3⟩
  have hB3 : Below w.heap.size w w3 := hB2.trans (hb3.mono hB2.size)
  refine hK.out _ _ ⟨rngB hS.1 hb3 hbl, rngB hS.2 hb3 hbl⟩ (fun hS => ?_)
  clear hK K
  clear hb3 hB2
  have HCM := Hid.intro (cmC_ah x y)
  generalize cmC x y = cm at *
  refine tz 10 20 (.bool (decide (0 ≤ cm))) rfl hS ?_
  simp only [pA,pB,pC,pD]
  refine wpAnyH_done (by kernel_rfl) ?_ _
  clear hS
  rw [HCM.out]
  clear HCM
  cases hah : ahB x y with
  | false =>
   have HE := Hid.intro (acTo_false (HA.out.trans hah) _ hlt)
   clear hah
   go_wp2_with fail
   go_ret
   exact ⟨ret_bool HE.out.symm, hB3⟩
  | true =>
   have HE : Hid (acTo xs (m + 1 + 1) = true) := by show _ = _; rw [acTo, ho.out, HA.out, hah]; rfl
   clear hah
   go_wp2_with fail
   go_roundw
   case rel => exact ⟨m + 1, .inr (by omega), by go_num, HE, hB3⟩
   case measure => simp [intOf]; omega

end Go.Proofs.YtnggdpjfmpjlhaaGreat

namespace Go.Proofs.YtnggdpjfmpjlhaaGreat
open Go.RowKit Go.WideMaps Go.Maps

theorem ascTo_all {ns : List ByteArray} : ∀ n, ascTo ns n = true → ∀ k, k < n → ascAt ns k = true
 | 0, _, k, hk => by omega
 | n + 1, h, k, hk => by
  simp only [ascTo, Bool.and_eq_true] at h
  by_cases e : k = n
  ·subst e; exact h.2
  ·exact ascTo_all n h.1 k (by omega)

theorem ascTo_yes {ns : List ByteArray} : ∀ n, (∀ k, k < n → ascAt ns k = true) → ascTo ns n = true
 | 0, _ => rfl
 | n + 1, h => by
  simp only [ascTo, Bool.and_eq_true]
  exact ⟨ascTo_yes n (fun k hk => h k (by omega)), h n (by omega)⟩

theorem asc_iff (ns : List ByteArray) : ascTo ns ns.length = true ↔ ∀ (j : Nat) u v, ns[j]? = some u → ns[j + 1]? = some v → Op.bytesLess u.toList v.toList = true := by
 constructor
 ·intro h j u v hu hv
  have := ascTo_all _ h (j + 1) (lt_of_some hv)
  rwa [ascAt_at hu hv] at this
 ·intro h
  refine ascTo_yes _ (fun k hk => ?_)
  cases k with
  | zero => rfl
  | succ k =>
   have h1 : ns[k]? = some ns[k] := List.getElem?_eq_getElem (by omega)
   have h2 : ns[k + 1]? = some ns[k + 1] := List.getElem?_eq_getElem hk
   rw [ascAt_at h1 h2]
   exact h k _ _ h1 h2

theorem ac_iff (xs : List Scp) : acTo xs xs.length = true ↔ ∀ (j : Nat) u v, xs[j]? = some u → xs[j + 1]? = some v → ahB u v = true := by
 constructor
 ·intro h j u v hu hv
  have := acTo_all _ h (j + 1) (lt_of_some hv)
  rwa [acAt_at hu hv] at this
 ·intro h
  refine acTo_yes _ (fun k hk => ?_)
  cases k with
  | zero => rfl
  | succ k =>
   have h1 : xs[k]? = some xs[k] := List.getElem?_eq_getElem (by omega)
   have h2 : xs[k + 1]? = some xs[k + 1] := List.getElem?_eq_getElem hk
   rw [acAt_at h1 h2]
   exact h k _ _ h1 h2

theorem all_at {α : Type} (xs : List α) (f : α → Bool) : xs.all f = true ↔ ∀ (j : Nat) y, xs[j]? = some y → f y = true := by
 rw [List.all_eq_true]
 constructor
 ·exact fun h j y hy => h y (List.mem_of_getElem? hy)
 ·intro h y hy
  obtain ⟨j, hj⟩ := List.getElem?_of_mem hy
  exact h j y hj

def svR (x : Sbk) (p : Nat) (y : Ssv) : List Chk := [(98, #[], snB y.name), (99, #[.pointer (some ⟨p, 0, none⟩)], inR y.version 1 x.now), (100, #[], nuB y), (101, #[], spB y), (102, #[], scB y)]
abbrev svV (p : Nat) : Array Value := #[.func (.func 98) #[] #[], .func (.func 99) #[.pointer (some ⟨p, 0, none⟩)] #[], .func (.func 100) #[] #[], .func (.func 101) #[] #[], .func (.func 102) #[] #[]]
theorem svR_all (x : Sbk) (p : Nat) (y : Ssv) : allR (svR x p y) = svB y x.now := by
 rw [svB_parts]
 simp [allR, svR, Bool.and_assoc]
theorem svR_enters (x : Sbk) (p : Nat) (y : Ssv) : Enters (svR x p y) := by
 intro k r hk
 have h := List.mem_of_getElem? hk
 simp only [svR, List.mem_cons, List.not_mem_nil, or_false] at h
 rcases h with rfl | rfl | rfl | rfl | rfl
 ·exact enters_of Tryz.func98 (by kernel_rfl) rfl
 ·exact enters_of Tryz.func99 (by kernel_rfl) rfl
 ·exact enters_of Tryz.func100 (by kernel_rfl) rfl
 ·exact enters_of Tryz.func101 (by kernel_rfl) rfl
 ·exact enters_of Tryz.func102 (by kernel_rfl) rfl
theorem svR_in {g p : Nat} {w : World} {t : TypeId} (x : Sbk) (h : Blk g (svV p) t w) (y : Ssv) : ChkIn g (svR x p y) w := by
 intro k r hk
 have hk8 : k < 5 := (List.getElem?_eq_some_iff.1 hk).1
 have hc : k = 0 ∨ k = 1 ∨ k = 2 ∨ k = 3 ∨ k = 4 := by omega
 rcases hc with rfl | rfl | rfl | rfl | rfl
 ·cases hk; exact h.cell rfl
 ·cases hk; exact h.cell rfl
 ·cases hk; exact h.cell rfl
 ·cases hk; exact h.cell rfl
 ·cases hk; exact h.cell rfl

def btR (_x : Sbk) (_p : Nat) (y : Sbt) : List Chk := [(106, #[], snB y.name)]
abbrev btV (_p : Nat) : Array Value := #[.func (.func 106) #[] #[]]
theorem btR_all (x : Sbk) (p : Nat) (y : Sbt) : allR (btR x p y) = snB y.name := by
 simp [allR, btR]
theorem btR_enters (x : Sbk) (p : Nat) (y : Sbt) : Enters (btR x p y) := by
 intro k r hk
 have h := List.mem_of_getElem? hk
 simp only [btR, List.mem_cons, List.not_mem_nil, or_false] at h
 subst h
 exact enters_of Tryz.func106 (by kernel_rfl) rfl
theorem btR_in {g p : Nat} {w : World} {t : TypeId} (x : Sbk) (h : Blk g (btV p) t w) (y : Sbt) : ChkIn g (btR x p y) w := by
 intro k r hk
 have hk8 : k < 1 := (List.getElem?_eq_some_iff.1 hk).1
 have hc : k = 0 := by omega
 subst hc
 cases hk
 exact h.cell rfl

def cpR (x : Sbk) (p : Nat) (y : Scp) : List Chk := [(109, #[.pointer (some ⟨p, 0, none⟩)], cvB x y), (110, #[.pointer (some ⟨p, 0, none⟩)], inR y.version 1 x.now), (111, #[], inR y.image 1 1000000), (112, #[], inR y.state 1 4), (113, #[.pointer (some ⟨p, 0, none⟩)], ctB x y)]
abbrev cpV (p : Nat) : Array Value := #[.func (.func 109) #[.pointer (some ⟨p, 0, none⟩)] #[], .func (.func 110) #[.pointer (some ⟨p, 0, none⟩)] #[], .func (.func 111) #[] #[], .func (.func 112) #[] #[], .func (.func 113) #[.pointer (some ⟨p, 0, none⟩)] #[]]
theorem cpR_all (x : Sbk) (p : Nat) (y : Scp) : allR (cpR x p y) = cpB x y := by
 rw [cpB_parts]
 simp [allR, cpR, Bool.and_assoc]
theorem cpR_enters (x : Sbk) (p : Nat) (y : Scp) : Enters (cpR x p y) := by
 intro k r hk
 have h := List.mem_of_getElem? hk
 simp only [cpR, List.mem_cons, List.not_mem_nil, or_false] at h
 rcases h with rfl | rfl | rfl | rfl | rfl
 ·exact enters_of Tryz.func109 (by kernel_rfl) rfl
 ·exact enters_of Tryz.func110 (by kernel_rfl) rfl
 ·exact enters_of Tryz.func111 (by kernel_rfl) rfl
 ·exact enters_of Tryz.func112 (by kernel_rfl) rfl
 ·exact enters_of Tryz.func113 (by kernel_rfl) rfl
theorem cpR_in {g p : Nat} {w : World} {t : TypeId} (x : Sbk) (h : Blk g (cpV p) t w) (y : Scp) : ChkIn g (cpR x p y) w := by
 intro k r hk
 have hk8 : k < 5 := (List.getElem?_eq_some_iff.1 hk).1
 have hc : k = 0 ∨ k = 1 ∨ k = 2 ∨ k = 3 ∨ k = 4 := by omega
 rcases hc with rfl | rfl | rfl | rfl | rfl
 ·cases hk; exact h.cell rfl
 ·cases hk; exact h.cell rfl
 ·cases hk; exact h.cell rfl
 ·cases hk; exact h.cell rfl
 ·cases hk; exact h.cell rfl

def svK (x : Sbk) (p : Nat) : Bool := ascTo (x.services.map (·.name)) x.services.length && x.services.all (fun y => allR (svR x p y))

set_option maxHeartbeats 4000000 in
set_option maxRecDepth 100000 in
theorem fservicesOk_any (x : Sbk) (a1 : Option Addr) (c1 : Nat) (a2 : Option Addr) (c2 : Nat) (a3 : Option Addr) (c3 : Nat) (p m n lo : Nat) (w : World) (hF : FndS x a1 c1 a2 c2 a3 c3 p m n lo w) (hl : x.services.length ≤ 1048576) :
  Calls Tryz.prog 79 #[.pointer (some ⟨p, 0, none⟩)] w fun e w' => e = .returned (.bool (svK x p)) ∧ Below w.heap.size w w' := by
 have HF := Hid.intro hF
 have ZZ : Hid (∀ (i : Nat) y, x.services[i]? = some y → y.name.size ≤ maxLen) := by
  intro i y hy
  obtain ⟨_, _, _, _, _, hc⟩ := hF.n1.at hy
  obtain ⟨_, _, _, _, _, _, _, _, _, _, _, _, _, z0⟩ := hc
  exact z0
 have k1 : w.cell? ⟨p, 1, none⟩ = some (.slice a1 x.services.length c1) := hF.blk.cell rfl
 clear hF
 go_enter Tryz.func79, Tryz.ntmps79
 go_wp2_with fail
 refine (ascSsv_any x.services a1 c1 lo _ HF.out.n1 hl).mono ?_
 rintro e w2 ⟨rfl, hb2⟩
 have HF2 := Hid.intro (HF.out.below hb2)
 cases ha : ascTo (x.services.map (·.name)) x.services.length with
 | false =>
  have HE : Hid (svK x p = false) := by show _ = _; unfold svK; rw [ha]; rfl
  clear ha
  go_wp2_with fail
  go_ret
  exact ⟨ret_bool HE.out.symm, hb2⟩
 | true =>
  have HE : Hid (svK x p = x.services.all (fun y => allR (svR x p y))) := by show _ = _; unfold svK; rw [ha]; rfl
  have HW : Hid (Blk w2.heap.size (svV p) 149 (w2.alloc (Obj.cells (svV p) 149))) := Blk.alloc _ _ _
  have hb3 : Below w2.heap.size w2 (w2.alloc (Obj.cells (svV p) 149)) := (Below.refl _ w2).alloc (Nat.le_refl _) _
  have HF3 := Hid.intro (HF2.out.below hb3)
  have k1 : w2.cell? ⟨p, 1, none⟩ = some (.slice a1 x.services.length c1) := HF2.out.blk.cell rfl
  have hB3 : Below w.heap.size w (w2.alloc (Obj.cells (svV p) 149)) := hb2.trans (hb3.mono hb2.size)
  clear ha HF
  go_wp2_with fail
  refine (eachSsv_any x.services (svR x p) 5 w2.heap.size c1 5 lo a1 (w2.alloc (Obj.cells (svV p) 149)) HF3.out.n1 hl (fun _ => rfl) (by decide) ?_ (svR_enters x p) (svR_in x HW.out) HW.out.lt).mono ?_
  ·intro i y hy k r hk v hv
   have HF := HF3
   have h := List.mem_of_getElem? hk
   simp only [svR, List.mem_cons, List.not_mem_nil, or_false] at h
   rcases h with rfl | rfl | rfl | rfl | rfl
   ·exact svNamed_any y _ (ZZ.out i y hy)
   ·exact svChanged_any x a1 c1 a2 c2 a3 c3 p m n lo y _ (HF.out.below hv)
   ·exact svNumbered_any y _
   ·exact svSpared_any y _
   ·exact svScaled_any y _
  ·rintro e w4 ⟨rfl, hb4⟩
   have hB4 := hB3.trans (hb4.mono hB3.size)
   have HEE := HE
   generalize x.services.all (fun y => allR (svR x p y)) = Q at *
   go_wp2_with fail
   go_ret
   exact ⟨ret_bool HE.out.symm, hB4⟩

def btK (x : Sbk) (p : Nat) : Bool := ascTo (x.berths.map (·.name)) x.berths.length && x.berths.all (fun y => allR (btR x p y))

set_option maxHeartbeats 4000000 in
set_option maxRecDepth 100000 in
theorem fberthsOk_any (x : Sbk) (a1 : Option Addr) (c1 : Nat) (a2 : Option Addr) (c2 : Nat) (a3 : Option Addr) (c3 : Nat) (p m n lo : Nat) (w : World) (hF : FndS x a1 c1 a2 c2 a3 c3 p m n lo w) (hl : x.berths.length ≤ 1048576) :
  Calls Tryz.prog 80 #[.pointer (some ⟨p, 0, none⟩)] w fun e w' => e = .returned (.bool (btK x p)) ∧ Below w.heap.size w w' := by
 have HF := Hid.intro hF
 have ZZ : Hid (∀ (i : Nat) y, x.berths[i]? = some y → y.name.size ≤ maxLen) := by
  intro i y hy
  obtain ⟨_, _, _, _, _, hc⟩ := hF.n3.at hy
  obtain ⟨_, _, z0⟩ := hc
  exact z0
 have k1 : w.cell? ⟨p, 3, none⟩ = some (.slice a3 x.berths.length c3) := hF.blk.cell rfl
 clear hF
 go_enter Tryz.func80, Tryz.ntmps80
 go_wp2_with fail
 refine (ascSbt_any x.berths a3 c3 lo _ HF.out.n3 hl).mono ?_
 rintro e w2 ⟨rfl, hb2⟩
 have HF2 := Hid.intro (HF.out.below hb2)
 cases ha : ascTo (x.berths.map (·.name)) x.berths.length with
 | false =>
  have HE : Hid (btK x p = false) := by show _ = _; unfold btK; rw [ha]; rfl
  clear ha
  go_wp2_with fail
  go_ret
  exact ⟨ret_bool HE.out.symm, hb2⟩
 | true =>
  have HE : Hid (btK x p = x.berths.all (fun y => allR (btR x p y))) := by show _ = _; unfold btK; rw [ha]; rfl
  have HW : Hid (Blk w2.heap.size (btV p) 154 (w2.alloc (Obj.cells (btV p) 154))) := Blk.alloc _ _ _
  have hb3 : Below w2.heap.size w2 (w2.alloc (Obj.cells (btV p) 154)) := (Below.refl _ w2).alloc (Nat.le_refl _) _
  have HF3 := Hid.intro (HF2.out.below hb3)
  have k1 : w2.cell? ⟨p, 3, none⟩ = some (.slice a3 x.berths.length c3) := HF2.out.blk.cell rfl
  have hB3 : Below w.heap.size w (w2.alloc (Obj.cells (btV p) 154)) := hb2.trans (hb3.mono hb2.size)
  clear ha HF
  go_wp2_with fail
  refine (eachSbt_any x.berths (btR x p) 1 w2.heap.size c3 1 lo a3 (w2.alloc (Obj.cells (btV p) 154)) HF3.out.n3 hl (fun _ => rfl) (by decide) ?_ (btR_enters x p) (btR_in x HW.out) HW.out.lt).mono ?_
  ·intro i y hy k r hk v hv
   have HF := HF3
   have h := List.mem_of_getElem? hk
   simp only [btR, List.mem_cons, List.not_mem_nil, or_false] at h
   subst h
   exact btNamed_any y _ (ZZ.out i y hy)
  ·rintro e w4 ⟨rfl, hb4⟩
   have hB4 := hB3.trans (hb4.mono hB3.size)
   have HEE := HE
   generalize x.berths.all (fun y => allR (btR x p y)) = Q at *
   go_wp2_with fail
   go_ret
   exact ⟨ret_bool HE.out.symm, hB4⟩

def cpK (x : Sbk) (p : Nat) : Bool := acTo x.copies x.copies.length && x.copies.all (fun y => allR (cpR x p y))

set_option maxHeartbeats 4000000 in
set_option maxRecDepth 100000 in
theorem fcopiesOk_any (x : Sbk) (a1 : Option Addr) (c1 : Nat) (a2 : Option Addr) (c2 : Nat) (a3 : Option Addr) (c3 : Nat) (p m n lo : Nat) (w : World) (hF : FndS x a1 c1 a2 c2 a3 c3 p m n lo w) (hl : x.copies.length ≤ 1048576) (hu : (∀ (j k : Nat) u v, x.services[j]? = some u → x.services[k]? = some v → u.name = v.name → j = k)) (hx : ∀ v ∈ x.services, 1 ≤ v.next ∧ v.next ≤ 1000000) :
  Calls Tryz.prog 81 #[.pointer (some ⟨p, 0, none⟩)] w fun e w' => e = .returned (.bool (cpK x p)) ∧ Below w.heap.size w w' := by
 have HF := Hid.intro hF
 have ZZ : Hid (∀ (i : Nat) y, x.copies[i]? = some y → y.service.size ≤ maxLen ∧ y.berth.size ≤ maxLen) := by
  intro i y hy
  obtain ⟨_, _, _, _, _, hc⟩ := hF.n2.at hy
  obtain ⟨_, _, _, _, _, _, _, z0, z1⟩ := hc
  exact ⟨z0, z1⟩
 have k1 : w.cell? ⟨p, 2, none⟩ = some (.slice a2 x.copies.length c2) := hF.blk.cell rfl
 clear hF
 go_enter Tryz.func81, Tryz.ntmps81
 go_wp2_with fail
 refine (ascC_any x.copies a2 c2 lo _ HF.out.n2 hl).mono ?_
 rintro e w2 ⟨rfl, hb2⟩
 have HF2 := Hid.intro (HF.out.below hb2)
 cases ha : acTo x.copies x.copies.length with
 | false =>
  have HE : Hid (cpK x p = false) := by show _ = _; unfold cpK; rw [ha]; rfl
  clear ha
  go_wp2_with fail
  go_ret
  exact ⟨ret_bool HE.out.symm, hb2⟩
 | true =>
  have HE : Hid (cpK x p = x.copies.all (fun y => allR (cpR x p y))) := by show _ = _; unfold cpK; rw [ha]; rfl
  have HW : Hid (Blk w2.heap.size (cpV p) 115 (w2.alloc (Obj.cells (cpV p) 115))) := Blk.alloc _ _ _
  have hb3 : Below w2.heap.size w2 (w2.alloc (Obj.cells (cpV p) 115)) := (Below.refl _ w2).alloc (Nat.le_refl _) _
  have HF3 := Hid.intro (HF2.out.below hb3)
  have k1 : w2.cell? ⟨p, 2, none⟩ = some (.slice a2 x.copies.length c2) := HF2.out.blk.cell rfl
  have hB3 : Below w.heap.size w (w2.alloc (Obj.cells (cpV p) 115)) := hb2.trans (hb3.mono hb2.size)
  clear ha HF
  go_wp2_with fail
  refine (eachScp_any x.copies (cpR x p) 5 w2.heap.size c2 5 lo a2 (w2.alloc (Obj.cells (cpV p) 115)) HF3.out.n2 hl (fun _ => rfl) (by decide) ?_ (cpR_enters x p) (cpR_in x HW.out) HW.out.lt).mono ?_
  ·intro i y hy k r hk v hv
   have HF := HF3
   have h := List.mem_of_getElem? hk
   simp only [cpR, List.mem_cons, List.not_mem_nil, or_false] at h
   rcases h with rfl | rfl | rfl | rfl | rfl
   ·exact cpServed_any x a1 c1 a2 c2 a3 c3 p m n lo y _ (HF.out.below hv) (ZZ.out i y hy).1 hu hx
   ·exact cpChanged_any x a1 c1 a2 c2 a3 c3 p m n lo y _ (HF.out.below hv)
   ·exact cpImaged_any y _
   ·exact cpStated_any y _
   ·exact cpBerthed_any x a1 c1 a2 c2 a3 c3 p m n lo y _ (HF.out.below hv) (ZZ.out i y hy).2
  ·rintro e w4 ⟨rfl, hb4⟩
   have hB4 := hB3.trans (hb4.mono hB3.size)
   have HEE := HE
   generalize x.copies.all (fun y => allR (cpR x p y)) = Q at *
   go_wp2_with fail
   go_ret
   exact ⟨ret_bool HE.out.symm, hB4⟩

end Go.Proofs.YtnggdpjfmpjlhaaGreat
