import Derived.Test.YtihnjndnkgnmaaaGreatTk0
import Derived.Test.YtihnjndnkgnmaaaGreatDp2
import Derived.Test.YtihnjndnkgnmaaaGreatJ9
import Derived.Test.YtihnjndnkgnmaaaGreatTkw
import Derived.Test.YtihnjndnkgnmaaaGreatHp2
import Derived.Test.YtihnjndnkgnmaaaGreatJ31
import Derived.Test.YtihnjndnkgnmaaaGreatHst
namespace Go.Proofs.YtihnjndnkgnmaaaGreat
open Go.RowKit

def SmB (l : List Brt) : Prop := ∀ x ∈ l, x.marks.length ≤ 1048576 ∧ SzStr x.marks 1048576 ∧ x.name.size ≤ 1048576 ∧ x.zone.size ≤ 1048576
def SmC (l : List Cpy) : Prop := ∀ x ∈ l, x.likes.length ≤ 1048576 ∧ SzLik x.likes 1048576 ∧ x.name.size ≤ 1048576 ∧ x.service.size ≤ 1048576 ∧ x.select.size ≤ 1048576 ∧ x.near.size ≤ 1048576 ∧ x.fixed.size ≤ 1048576 ∧ x.at_.size ≤ 1048576

set_option maxHeartbeats 1000000 in
set_option maxRecDepth 100000 in
theorem clBrt_any (xs : List Brt) (ad : Addr) (cap lo : Nat) (w : World) (hin : SliceC BrtC 6 lo w (some ad) xs) (hsm : xs.length ≤ 1048576) :
  Calls Tryz.prog 102 #[.slice (some ad) xs.length cap] w fun e w' => ∃ g c cs, e = .returned (.slice (some ⟨g, 0, none⟩) xs.length c) ∧ w'.ownsRow w.heap.size 45 6 (.slice (some ⟨g, 0, none⟩) xs.length c) xs.length cs ∧ (∀ j x, xs[j]? = some x → ∃ (ae : Option Addr) (ce : Nat), (∀ i u, (vBr x (.slice ae x.marks.length ce))[i]? = some u → cs[j * 6 + i]? = some u) ∧ SliceC StrC 1 lo w ae x.marks) ∧ Below w.heap.size w w' := by
 obtain ⟨i0, hi, hz0, hz1, hz2⟩ := info_parts info_Brt
 have q22 : ∀ (w : World) (a : Option Addr) (n c n' c' : Nat), (binOp .eql 37 (.slice a n c) (.slice none n' c')).run Tryz.prog w = .ok (.bool a.isNone) w := fun w a n c n' c' => Lib.run_eql_slice_nil w _ _ a n c n' c' Tryz.underlying37
 obtain ⟨cs, hcl, hcs, hc1, hcb⟩ := cellsBrt hin
 have HCL := iH hcl
 have HS := iH hcs
 have HC1 := iH hc1
 have HCB := iH hcb
 clear hin hcl hcs hc1 hcb
 go_enter Tryz.func102, Tryz.ntmps102
 go_wp2_with (at_builtin; refine wpList_append_own _ rfl _ _ 37 rfl w.heap.size 45 i0 _ 6 80 Tryz.underlying37 hi hz0 hz1 hz2 rfl (by decide) _ _ _ rfl (World.ownsRow_made w #[] 0 nL (Nat.zero_le _) rfl) ad xs.length _ cs rfl HCL.out (fun j u hj => Lib.cell?_alloc_some _ (HS.out j u hj)) HC1.out (by unfold maxLen; omega) (by omega) (by simp) ?_; intro v' w1 hown hgrow hnil)
 have hv : v' ≠ .slice none 0 0 := fun e => by have := (hnil.1 e).1; cases this
 have hown' : w1.ownsRow w.heap.size 45 6 v' xs.length cs := by simpa using hown
 obtain ⟨g, c, rfl⟩ := rowf hown' hv
 have HO := iH hown'
 have hB : Below w.heap.size w w1 := ((Below.refl _ w).alloc nL _).grown hgrow (by simp) (by intro k hk; cases hk; exact Nat.le_refl _)
 clear hown hgrow hnil hv hown'
 go_wp2_with fail
 go_ret
 exact ⟨g, c, cs, rfl, HO.out, HCB.out, hB⟩

set_option maxHeartbeats 1000000 in
theorem clnBrt_any (cap : Nat) (w : World) :
  Calls Tryz.prog 102 #[.slice none 0 cap] w fun e w' => e = .returned (.slice none 0 0) ∧ Below w.heap.size w w' := by
 have q22 : ∀ (w : World) (a : Option Addr) (n c n' c' : Nat), (binOp .eql 37 (.slice a n c) (.slice none n' c')).run Tryz.prog w = .ok (.bool a.isNone) w := fun w a n c n' c' => Lib.run_eql_slice_nil w _ _ a n c n' c' Tryz.underlying37
 go_enter Tryz.func102, Tryz.ntmps102
 go_wp2_with fail
 go_ret
 exact ⟨rfl, Below.refl _ _⟩

set_option maxHeartbeats 1000000 in
set_option maxRecDepth 100000 in
theorem eanBrt_any (f : Value) (cap : Nat) (w : World) :
  Calls Tryz.prog 66 #[.slice none 0 cap, f] w fun e w' => e = .returned (.slice none 0 0) ∧ Below w.heap.size w w' := by
 go_enter Tryz.func66, Tryz.ntmps66
 go_wp2_with fail
 refine (clnBrt_any cap _).mono ?_
 rintro e w1 ⟨rfl, hb⟩
 have HB := iH hb
 clear hb
 go_wp2_with fail
 go_loopw [11] (fun i wr => i = .int .i64 0 ∧ Below w.heap.size w wr) (fun i _ => 0)
 case atStart => exact ⟨rfl, HB.out⟩
 case round =>
  obtain ⟨rfl, hB⟩ := hrel
  go_wp2_with fail
  go_ret
  exact ⟨rfl, hB⟩

set_option maxHeartbeats 4000000 in
set_option maxRecDepth 100000 in
theorem eaBrt_any (xs : List Brt) (ad : Addr) (cap lo : Nat) (w : World) (hin : SliceC BrtC 6 lo w (some ad) xs) (hsm : xs.length ≤ 1048576) (hz : SmB xs) :
  Calls Tryz.prog 66 #[.slice (some ad) xs.length cap, .func (.func 67) #[] #[]] w fun e w' => ∃ g q, e = .returned (.slice (some ⟨g, 0, none⟩) xs.length q) ∧ OwnBA w.heap.size w' (.slice (some ⟨g, 0, none⟩) xs.length q) xs ∧ Below w.heap.size w w' := by
 have HI := iH hin
 have HZ := iH hz
 clear hin hz
 go_enter Tryz.func66, Tryz.ntmps66
 go_wp2_with fail
 refine (clBrt_any xs ad cap lo _ HI.out hsm).mono ?_
 rintro e w1 ⟨g, q, cs, rfl, hO1, hcb, hB1⟩
 have HO1 := iH hO1
 have HP1 : Hid (PAt vBr Brt.marks StrC 1 6 2 w.heap.size lo w1.heap.size g w w1 cs xs 0) := ⟨fun j x hj => absurd hj (Nat.not_lt_zero _), fun j x _ hj => hcb j x hj, fun i j _ _ _ _ _ _ _ _ _ h => absurd h (Nat.not_lt_zero _)⟩
 clear hO1 hcb
 go_wp2_with fail
 go_loopw [11] (fun i wr => ∃ (k : Nat) (cs : List Value), k ≤ xs.length ∧ i = .int .i64 k ∧ Hid (wr.ownsRow w.heap.size 45 6 (.slice (some ⟨g, 0, none⟩) xs.length q) xs.length cs) ∧ Hid (PAt vBr Brt.marks StrC 1 6 2 w.heap.size lo wr.heap.size g w wr cs xs k) ∧ Below w.heap.size w wr) (fun i _ => xs.length - (intOf i).toNat)
 case atStart => exact ⟨0, cs, Nat.zero_le _, rfl, HO1, HP1, hB1⟩
 case round =>
  clear HO1 HP1 hB1
  obtain ⟨k, cs, hk, rfl, HO, HP, hB⟩ := hrel
  by_cases hlt : k < xs.length
  ·obtain ⟨x, hx⟩ : ∃ x, xs[k]? = some x := ⟨xs[k], List.getElem?_eq_getElem hlt⟩
   have HXX := iH hx
   have Z := iH (HZ.out x (List.mem_of_getElem? hx))
   have hgl : g < wr.heap.size := (HO.out.lt g rfl).2
   have hgb : w.heap.size ≤ g := rowb HO.out
   have hcl : cs.length = xs.length * 6 := HO.out.1
   obtain ⟨am, cm, hqc, hsm0⟩ := HP.out.old k x nL hx
   have HSM := iH hsm0
   have HRA : Hid (wr.rangeAt g (k * 6) [.string x.name, .string x.zone, .slice am x.marks.length cm, .int .i64 x.room, .int .i64 x.hold, .bool x.closed]) := fun j v hv => by
    have hj : j < 6 := lt_of_some hv
    have h1 := HO.out.cellAt (k * 6 + j) (by omega)
    rw [hqc j v hv] at h1
    exact h1
   clear hx hqc hsm0
   have hza : Blk wr.heap.size #[.string ⟨#[]⟩, .string ⟨#[]⟩, .slice none 0 0, .int .i64 0, .int .i64 0, .bool false] 45 (wr.alloc (Obj.cells #[.string ⟨#[]⟩, .string ⟨#[]⟩, .slice none 0 0, .int .i64 0, .int .i64 0, .bool false] 45)) := Blk.alloc _ _ _
   have HTS : Hid ((wr.alloc (Obj.cells #[.string ⟨#[]⟩, .string ⟨#[]⟩, .slice none 0 0, .int .i64 0, .int .i64 0, .bool false] 45)).there wr.heap.size 0 6) := hza.there
   obtain ⟨w4, HW4⟩ : ∃ w4, Hid (w4 = (wr.alloc (Obj.cells #[.string ⟨#[]⟩, .string ⟨#[]⟩, .slice none 0 0, .int .i64 0, .int .i64 0, .bool false] 45)).setCells wr.heap.size 0 [.string x.name, .string x.zone, .slice am x.marks.length cm, .int .i64 x.room, .int .i64 x.hold, .bool x.closed]) := ⟨_, rfl⟩
   have HK4 : Hid (Blk wr.heap.size #[.string x.name, .string x.zone, .slice am x.marks.length cm, .int .i64 x.room, .int .i64 x.hold, .bool x.closed] 45 w4) := by
    show Blk _ _ _ _
    rw [HW4.out]
    exact hza.setAll #[.string x.name, .string x.zone, .slice am x.marks.length cm, .int .i64 x.room, .int .i64 x.hold, .bool x.closed] rfl
   have hbx : Below wr.heap.size wr w4 := by
    rw [HW4.out]
    exact below_setCells nL _ _ _ ((Below.refl _ wr).alloc nL _)
   have hB4 : Below w.heap.size w w4 := hB.trans (hbx.mono hB.size)
   have HBX := iH hbx
   have hs4 : wr.heap.size ≤ w4.heap.size := hbx.size
   clear hza hbx hB
   go_upto_region 5 with (first | (refine wpList_load_mid rfl 45 _ rfl g (k * 6) (by first | rfl | (simp [go_sem]; done)) [.string x.name, .string x.zone, .slice am x.marks.length cm, .int .i64 x.room, .int .i64 x.hold, .bool x.closed] _ HRA.out Tryz.underlying45 rfl isz_Brt ?_) | (refine wpList_store_to rfl 45 _ _ rfl wr.heap.size 0 #[.string x.name, .string x.zone, .slice am x.marks.length cm, .int .i64 x.room, .int .i64 x.hold, .bool x.closed] rfl rfl HTS.out isz_Brt (by simp [Value.oneCell']) w4 HW4.out ?_))
   clear HRA HTS HW4
   go_wp2_with (first | (refine wpList_load_mid rfl 45 _ rfl wr.heap.size 0 (by first | rfl | (simp [go_sem]; done)) [.string x.name, .string x.zone, .slice am x.marks.length cm, .int .i64 x.room, .int .i64 x.hold, .bool x.closed] _ HK4.out.rangeA Tryz.underlying45 rfl isz_Brt ?_))
   refine (nwBrt_any x am cm lo _ (HSM.out.below StrC.holds hB4 nL) Z.out.1 Z.out.2.1 Z.out.2.2.1 Z.out.2.2.2).mono ?_
   rintro e w5 ⟨gm, qm, rfl, hOm, hb5⟩
   have hsn := rowslStr hOm Z.out.1 (size_of_Str HSM.out)
   have hB5 := hB4.trans (hb5.mono hB4.size)
   have hBr : Below wr.heap.size wr w5 := HBX.out.trans (hb5.mono hs4)
   have HO5 := iH (ownsRow_below HO.out hBr)
   have HP5 : Hid (PAt vBr Brt.marks StrC 1 6 2 w.heap.size lo wr.heap.size g w w5 cs xs k) := HP.out.below StrC.holds hBr nL
   have HT5 : Hid (w5.there g (k * 6) 6) := ownsRow_there HO5.out (by omega)
   obtain ⟨w6, HW6⟩ : ∃ w6, Hid (w6 = w5.setCells g (k * 6) (vBr x (.slice gm x.marks.length qm))) := ⟨_, rfl⟩
   have hs6 : w6.heap.size = w5.heap.size := by rw [HW6.out, size_setCells]
   have HO6 : Hid (w6.ownsRow w.heap.size 45 6 (.slice (some ⟨g, 0, none⟩) xs.length q) xs.length (setRun cs (k * 6) (vBr x (.slice gm x.marks.length qm)))) := by
    have h := ownsRow_run (vBr x (.slice gm x.marks.length qm)) _ (k * 6) _ HO5.out
    rw [← HW6.out] at h
    exact h
   have HP6 : Hid (PAt vBr Brt.marks StrC 1 6 2 w.heap.size lo w6.heap.size g w w6 (setRun cs (k * 6) (vBr x (.slice gm x.marks.length qm))) xs (k + 1)) := by
    have h := PAt.step (N' := w6.heap.size) (ae := gm) (ce := qm) StrC.flat vBr_len vBr_sl HP5.out HXX.out hcl (hsn.keep StrC.holds (Keeps.refl _ _) (by have := hB4.size; omega)) (fun b o e hn => by
     rcases hsn.2 with h9 | ⟨b', o', e', ⟨h8, _⟩, h7, _⟩
     ·exact absurd h9 hn
     ·rw [e] at e'
      cases e'
      omega) (by have := hBr.size; omega)
    rw [← HW6.out] at h
    exact h
   have hB6 : Below w.heap.size w w6 := by
    rw [HW6.out]
    exact below_setCells hgb _ _ _ hB5
   unfold vBr at HW6
   clear hB5 HO5 HP5 hB4 HBX hs4 hb5 hOm hsn hBr hs6 HK4 HO HP
   have i0 : (0 : Int) ≤ (k : Int) := by omega
   have i1 : (k : Int) < (xs.length : Int) := by omega
   go_wp2_with (first | (refine wpList_store_to rfl 45 _ _ rfl g (k * 6) #[.string x.name, .string x.zone, .slice gm x.marks.length qm, .int .i64 x.room, .int .i64 x.hold, .bool x.closed] (by first | rfl | (simp [go_sem]; done)) rfl HT5.out isz_Brt (by simp [Value.oneCell']) w6 HW6.out ?_))
   go_roundw
   case rel => exact ⟨k + 1, _, by omega, by go_num, HO6, HP6, hB6⟩
   case measure => simp [intOf]; omega
  ·have hke : k = xs.length := by omega
   subst hke
   go_wp2_with fail
   go_ret
   exact ⟨g, q, rfl, HP.out.done nL HO.out, hB⟩

theorem eachBrt_any (xs : List Brt) (a : Option Addr) (cap lo : Nat) (w : World) (hin : SliceC BrtC 6 lo w a xs) (hsm : xs.length ≤ 1048576) (hz : SmB xs) :
  Calls Tryz.prog 66 #[.slice a xs.length cap, .func (.func 67) #[] #[]] w fun e w' => ∃ g q, e = .returned (.slice g xs.length q) ∧ OwnBA w.heap.size w' (.slice g xs.length q) xs ∧ Below w.heap.size w w' := by
 cases a with
 | none =>
  have h0 : xs = [] := List.length_eq_zero_iff.1 (hin.nilD rfl)
  subst h0
  refine (eanBrt_any _ cap w).mono ?_
  rintro e w1 ⟨rfl, hb⟩
  exact ⟨none, 0, rfl, OwnA.nil, hb⟩
 | some ad =>
  refine (eaBrt_any xs ad cap lo w hin hsm hz).mono ?_
  rintro e w1 ⟨g, q, rfl, hO, hb⟩
  exact ⟨some ⟨g, 0, none⟩, q, rfl, hO, hb⟩

set_option maxHeartbeats 1000000 in
set_option maxRecDepth 100000 in
theorem clCpy_any (xs : List Cpy) (ad : Addr) (cap lo : Nat) (w : World) (hin : SliceC CpyC 12 lo w (some ad) xs) (hsm : xs.length ≤ 1048576) :
  Calls Tryz.prog 106 #[.slice (some ad) xs.length cap] w fun e w' => ∃ g c cs, e = .returned (.slice (some ⟨g, 0, none⟩) xs.length c) ∧ w'.ownsRow w.heap.size 48 12 (.slice (some ⟨g, 0, none⟩) xs.length c) xs.length cs ∧ (∀ j x, xs[j]? = some x → ∃ (ae : Option Addr) (ce : Nat), (∀ i u, (vCp x (.slice ae x.likes.length ce))[i]? = some u → cs[j * 12 + i]? = some u) ∧ SliceC LikC 2 lo w ae x.likes) ∧ Below w.heap.size w w' := by
 obtain ⟨i0, hi, hz0, hz1, hz2⟩ := info_parts info_Cpy
 have q22 : ∀ (w : World) (a : Option Addr) (n c n' c' : Nat), (binOp .eql 39 (.slice a n c) (.slice none n' c')).run Tryz.prog w = .ok (.bool a.isNone) w := fun w a n c n' c' => Lib.run_eql_slice_nil w _ _ a n c n' c' Tryz.underlying39
 obtain ⟨cs, hcl, hcs, hc1, hcb⟩ := cellsCpy hin
 have HCL := iH hcl
 have HS := iH hcs
 have HC1 := iH hc1
 have HCB := iH hcb
 clear hin hcl hcs hc1 hcb
 go_enter Tryz.func106, Tryz.ntmps106
 go_wp2_with (at_builtin; refine wpList_append_own _ rfl _ _ 39 rfl w.heap.size 48 i0 _ 12 160 Tryz.underlying39 hi hz0 hz1 hz2 rfl (by decide) _ _ _ rfl (World.ownsRow_made w #[] 0 nL (Nat.zero_le _) rfl) ad xs.length _ cs rfl HCL.out (fun j u hj => Lib.cell?_alloc_some _ (HS.out j u hj)) HC1.out (by unfold maxLen; omega) (by omega) (by simp) ?_; intro v' w1 hown hgrow hnil)
 have hv : v' ≠ .slice none 0 0 := fun e => by have := (hnil.1 e).1; cases this
 have hown' : w1.ownsRow w.heap.size 48 12 v' xs.length cs := by simpa using hown
 obtain ⟨g, c, rfl⟩ := rowf hown' hv
 have HO := iH hown'
 have hB : Below w.heap.size w w1 := ((Below.refl _ w).alloc nL _).grown hgrow (by simp) (by intro k hk; cases hk; exact Nat.le_refl _)
 clear hown hgrow hnil hv hown'
 go_wp2_with fail
 go_ret
 exact ⟨g, c, cs, rfl, HO.out, HCB.out, hB⟩

set_option maxHeartbeats 1000000 in
theorem clnCpy_any (cap : Nat) (w : World) :
  Calls Tryz.prog 106 #[.slice none 0 cap] w fun e w' => e = .returned (.slice none 0 0) ∧ Below w.heap.size w w' := by
 have q22 : ∀ (w : World) (a : Option Addr) (n c n' c' : Nat), (binOp .eql 39 (.slice a n c) (.slice none n' c')).run Tryz.prog w = .ok (.bool a.isNone) w := fun w a n c n' c' => Lib.run_eql_slice_nil w _ _ a n c n' c' Tryz.underlying39
 go_enter Tryz.func106, Tryz.ntmps106
 go_wp2_with fail
 go_ret
 exact ⟨rfl, Below.refl _ _⟩

set_option maxHeartbeats 1000000 in
set_option maxRecDepth 100000 in
theorem eanCpy_any (f : Value) (cap : Nat) (w : World) :
  Calls Tryz.prog 70 #[.slice none 0 cap, f] w fun e w' => e = .returned (.slice none 0 0) ∧ Below w.heap.size w w' := by
 go_enter Tryz.func70, Tryz.ntmps70
 go_wp2_with fail
 refine (clnCpy_any cap _).mono ?_
 rintro e w1 ⟨rfl, hb⟩
 have HB := iH hb
 clear hb
 go_wp2_with fail
 go_loopw [11] (fun i wr => i = .int .i64 0 ∧ Below w.heap.size w wr) (fun i _ => 0)
 case atStart => exact ⟨rfl, HB.out⟩
 case round =>
  obtain ⟨rfl, hB⟩ := hrel
  go_wp2_with fail
  go_ret
  exact ⟨rfl, hB⟩

set_option maxHeartbeats 4000000 in
set_option maxRecDepth 100000 in
theorem eaCpy_any (xs : List Cpy) (ad : Addr) (cap lo : Nat) (w : World) (hin : SliceC CpyC 12 lo w (some ad) xs) (hsm : xs.length ≤ 1048576) (hz : SmC xs) :
  Calls Tryz.prog 70 #[.slice (some ad) xs.length cap, .func (.func 71) #[] #[]] w fun e w' => ∃ g q, e = .returned (.slice (some ⟨g, 0, none⟩) xs.length q) ∧ OwnCA w.heap.size w' (.slice (some ⟨g, 0, none⟩) xs.length q) xs ∧ Below w.heap.size w w' := by
 have HI := iH hin
 have HZ := iH hz
 clear hin hz
 go_enter Tryz.func70, Tryz.ntmps70
 go_wp2_with fail
 refine (clCpy_any xs ad cap lo _ HI.out hsm).mono ?_
 rintro e w1 ⟨g, q, cs, rfl, hO1, hcb, hB1⟩
 have HO1 := iH hO1
 have HP1 : Hid (PAt vCp Cpy.likes LikC 2 12 7 w.heap.size lo w1.heap.size g w w1 cs xs 0) := ⟨fun j x hj => absurd hj (Nat.not_lt_zero _), fun j x _ hj => hcb j x hj, fun i j _ _ _ _ _ _ _ _ _ h => absurd h (Nat.not_lt_zero _)⟩
 clear hO1 hcb
 go_wp2_with fail
 go_loopw [11] (fun i wr => ∃ (k : Nat) (cs : List Value), k ≤ xs.length ∧ i = .int .i64 k ∧ Hid (wr.ownsRow w.heap.size 48 12 (.slice (some ⟨g, 0, none⟩) xs.length q) xs.length cs) ∧ Hid (PAt vCp Cpy.likes LikC 2 12 7 w.heap.size lo wr.heap.size g w wr cs xs k) ∧ Below w.heap.size w wr) (fun i _ => xs.length - (intOf i).toNat)
 case atStart => exact ⟨0, cs, Nat.zero_le _, rfl, HO1, HP1, hB1⟩
 case round =>
  clear HO1 HP1 hB1
  obtain ⟨k, cs, hk, rfl, HO, HP, hB⟩ := hrel
  by_cases hlt : k < xs.length
  ·obtain ⟨x, hx⟩ : ∃ x, xs[k]? = some x := ⟨xs[k], List.getElem?_eq_getElem hlt⟩
   have HXX := iH hx
   have Z := iH (HZ.out x (List.mem_of_getElem? hx))
   have hgl : g < wr.heap.size := (HO.out.lt g rfl).2
   have hgb : w.heap.size ≤ g := rowb HO.out
   have hcl : cs.length = xs.length * 12 := HO.out.1
   obtain ⟨am, cm, hqc, hsm0⟩ := HP.out.old k x nL hx
   have HSM := iH hsm0
   have HRA : Hid (wr.rangeAt g (k * 12) [.string x.name, .string x.service, .int .i64 x.rank, .int .i64 x.born, .int .i64 x.room, .int .i64 x.hold, .string x.select, .slice am x.likes.length cm, .int .i64 x.apart, .string x.near, .string x.fixed, .string x.at_]) := fun j v hv => by
    have hj : j < 12 := lt_of_some hv
    have h1 := HO.out.cellAt (k * 12 + j) (by omega)
    rw [hqc j v hv] at h1
    exact h1
   clear hx hqc hsm0
   have hza : Blk wr.heap.size #[.string ⟨#[]⟩, .string ⟨#[]⟩, .int .i64 0, .int .i64 0, .int .i64 0, .int .i64 0, .string ⟨#[]⟩, .slice none 0 0, .int .i64 0, .string ⟨#[]⟩, .string ⟨#[]⟩, .string ⟨#[]⟩] 48 (wr.alloc (Obj.cells #[.string ⟨#[]⟩, .string ⟨#[]⟩, .int .i64 0, .int .i64 0, .int .i64 0, .int .i64 0, .string ⟨#[]⟩, .slice none 0 0, .int .i64 0, .string ⟨#[]⟩, .string ⟨#[]⟩, .string ⟨#[]⟩] 48)) := Blk.alloc _ _ _
   have HTS : Hid ((wr.alloc (Obj.cells #[.string ⟨#[]⟩, .string ⟨#[]⟩, .int .i64 0, .int .i64 0, .int .i64 0, .int .i64 0, .string ⟨#[]⟩, .slice none 0 0, .int .i64 0, .string ⟨#[]⟩, .string ⟨#[]⟩, .string ⟨#[]⟩] 48)).there wr.heap.size 0 12) := hza.there
   obtain ⟨w4, HW4⟩ : ∃ w4, Hid (w4 = (wr.alloc (Obj.cells #[.string ⟨#[]⟩, .string ⟨#[]⟩, .int .i64 0, .int .i64 0, .int .i64 0, .int .i64 0, .string ⟨#[]⟩, .slice none 0 0, .int .i64 0, .string ⟨#[]⟩, .string ⟨#[]⟩, .string ⟨#[]⟩] 48)).setCells wr.heap.size 0 [.string x.name, .string x.service, .int .i64 x.rank, .int .i64 x.born, .int .i64 x.room, .int .i64 x.hold, .string x.select, .slice am x.likes.length cm, .int .i64 x.apart, .string x.near, .string x.fixed, .string x.at_]) := ⟨_, rfl⟩
   have HK4 : Hid (Blk wr.heap.size #[.string x.name, .string x.service, .int .i64 x.rank, .int .i64 x.born, .int .i64 x.room, .int .i64 x.hold, .string x.select, .slice am x.likes.length cm, .int .i64 x.apart, .string x.near, .string x.fixed, .string x.at_] 48 w4) := by
    show Blk _ _ _ _
    rw [HW4.out]
    exact hza.setAll #[.string x.name, .string x.service, .int .i64 x.rank, .int .i64 x.born, .int .i64 x.room, .int .i64 x.hold, .string x.select, .slice am x.likes.length cm, .int .i64 x.apart, .string x.near, .string x.fixed, .string x.at_] rfl
   have hbx : Below wr.heap.size wr w4 := by
    rw [HW4.out]
    exact below_setCells nL _ _ _ ((Below.refl _ wr).alloc nL _)
   have hB4 : Below w.heap.size w w4 := hB.trans (hbx.mono hB.size)
   have HBX := iH hbx
   have hs4 : wr.heap.size ≤ w4.heap.size := hbx.size
   clear hza hbx hB
   go_upto_region 5 with (first | (refine wpList_load_mid rfl 48 _ rfl g (k * 12) (by first | rfl | (simp [go_sem]; done)) [.string x.name, .string x.service, .int .i64 x.rank, .int .i64 x.born, .int .i64 x.room, .int .i64 x.hold, .string x.select, .slice am x.likes.length cm, .int .i64 x.apart, .string x.near, .string x.fixed, .string x.at_] _ HRA.out Tryz.underlying48 rfl isz_Cpy ?_) | (refine wpList_store_to rfl 48 _ _ rfl wr.heap.size 0 #[.string x.name, .string x.service, .int .i64 x.rank, .int .i64 x.born, .int .i64 x.room, .int .i64 x.hold, .string x.select, .slice am x.likes.length cm, .int .i64 x.apart, .string x.near, .string x.fixed, .string x.at_] rfl rfl HTS.out isz_Cpy (by simp [Value.oneCell']) w4 HW4.out ?_))
   clear HRA HTS HW4
   go_wp2_with (first | (refine wpList_load_mid rfl 48 _ rfl wr.heap.size 0 (by first | rfl | (simp [go_sem]; done)) [.string x.name, .string x.service, .int .i64 x.rank, .int .i64 x.born, .int .i64 x.room, .int .i64 x.hold, .string x.select, .slice am x.likes.length cm, .int .i64 x.apart, .string x.near, .string x.fixed, .string x.at_] _ HK4.out.rangeA Tryz.underlying48 rfl isz_Cpy ?_))
   refine (nwCpy_any x am cm lo _ (HSM.out.below LikC.holds hB4 nL) Z.out.1 Z.out.2.1 Z.out.2.2.1 Z.out.2.2.2.1 Z.out.2.2.2.2.1 Z.out.2.2.2.2.2.1 Z.out.2.2.2.2.2.2.1 Z.out.2.2.2.2.2.2.2).mono ?_
   rintro e w5 ⟨gm, qm, rfl, hOm, hb5⟩
   have hsn := rowslLik hOm Z.out.1 (size_of_Lik HSM.out)
   have hB5 := hB4.trans (hb5.mono hB4.size)
   have hBr : Below wr.heap.size wr w5 := HBX.out.trans (hb5.mono hs4)
   have HO5 := iH (ownsRow_below HO.out hBr)
   have HP5 : Hid (PAt vCp Cpy.likes LikC 2 12 7 w.heap.size lo wr.heap.size g w w5 cs xs k) := HP.out.below LikC.holds hBr nL
   have HT5 : Hid (w5.there g (k * 12) 12) := ownsRow_there HO5.out (by omega)
   obtain ⟨w6, HW6⟩ : ∃ w6, Hid (w6 = w5.setCells g (k * 12) (vCp x (.slice gm x.likes.length qm))) := ⟨_, rfl⟩
   have hs6 : w6.heap.size = w5.heap.size := by rw [HW6.out, size_setCells]
   have HO6 : Hid (w6.ownsRow w.heap.size 48 12 (.slice (some ⟨g, 0, none⟩) xs.length q) xs.length (setRun cs (k * 12) (vCp x (.slice gm x.likes.length qm)))) := by
    have h := ownsRow_run (vCp x (.slice gm x.likes.length qm)) _ (k * 12) _ HO5.out
    rw [← HW6.out] at h
    exact h
   have HP6 : Hid (PAt vCp Cpy.likes LikC 2 12 7 w.heap.size lo w6.heap.size g w w6 (setRun cs (k * 12) (vCp x (.slice gm x.likes.length qm))) xs (k + 1)) := by
    have h := PAt.step (N' := w6.heap.size) (ae := gm) (ce := qm) LikC.flat vCp_len vCp_sl HP5.out HXX.out hcl (hsn.keep LikC.holds (Keeps.refl _ _) (by have := hB4.size; omega)) (fun b o e hn => by
     rcases hsn.2 with h9 | ⟨b', o', e', ⟨h8, _⟩, h7, _⟩
     ·exact absurd h9 hn
     ·rw [e] at e'
      cases e'
      omega) (by have := hBr.size; omega)
    rw [← HW6.out] at h
    exact h
   have hB6 : Below w.heap.size w w6 := by
    rw [HW6.out]
    exact below_setCells hgb _ _ _ hB5
   unfold vCp at HW6
   clear hB5 HO5 HP5 hB4 HBX hs4 hb5 hOm hsn hBr hs6 HK4 HO HP
   have i0 : (0 : Int) ≤ (k : Int) := by omega
   have i1 : (k : Int) < (xs.length : Int) := by omega
   go_wp2_with (first | (refine wpList_store_to rfl 48 _ _ rfl g (k * 12) #[.string x.name, .string x.service, .int .i64 x.rank, .int .i64 x.born, .int .i64 x.room, .int .i64 x.hold, .string x.select, .slice gm x.likes.length qm, .int .i64 x.apart, .string x.near, .string x.fixed, .string x.at_] (by first | rfl | (simp [go_sem]; done)) rfl HT5.out isz_Cpy (by simp [Value.oneCell']) w6 HW6.out ?_))
   go_roundw
   case rel => exact ⟨k + 1, _, by omega, by go_num, HO6, HP6, hB6⟩
   case measure => simp [intOf]; omega
  ·have hke : k = xs.length := by omega
   subst hke
   go_wp2_with fail
   go_ret
   exact ⟨g, q, rfl, HP.out.done nL HO.out, hB⟩

theorem eachCpy_any (xs : List Cpy) (a : Option Addr) (cap lo : Nat) (w : World) (hin : SliceC CpyC 12 lo w a xs) (hsm : xs.length ≤ 1048576) (hz : SmC xs) :
  Calls Tryz.prog 70 #[.slice a xs.length cap, .func (.func 71) #[] #[]] w fun e w' => ∃ g q, e = .returned (.slice g xs.length q) ∧ OwnCA w.heap.size w' (.slice g xs.length q) xs ∧ Below w.heap.size w w' := by
 cases a with
 | none =>
  have h0 : xs = [] := List.length_eq_zero_iff.1 (hin.nilD rfl)
  subst h0
  refine (eanCpy_any _ cap w).mono ?_
  rintro e w1 ⟨rfl, hb⟩
  exact ⟨none, 0, rfl, OwnA.nil, hb⟩
 | some ad =>
  refine (eaCpy_any xs ad cap lo w hin hsm hz).mono ?_
  rintro e w1 ⟨g, q, rfl, hO, hb⟩
  exact ⟨some ⟨g, 0, none⟩, q, rfl, hO, hb⟩

end Go.Proofs.YtihnjndnkgnmaaaGreat

namespace Go.Proofs.YtihnjndnkgnmaaaGreat
open Go.RowKit Go.WideMaps Go.Maps

def chV (pf : Nat) (pk : Bool) (vb vs vc : Value) (v : Evt) (am : Option Addr) (cm : Nat) (al : Option Addr) (cl : Nat) : Array Value := #[.pointer (some ⟨pf, 0, none⟩), .bool pk, vb, vs, vc, .int .i64 v.kind, .string v.berth.name, .string v.berth.zone, .slice am v.berth.marks.length cm, .int .i64 v.berth.room, .int .i64 v.berth.hold, .bool v.berth.closed, .string v.copy.name, .string v.copy.service, .int .i64 v.copy.rank, .int .i64 v.copy.born, .int .i64 v.copy.room, .int .i64 v.copy.hold, .string v.copy.select, .slice al v.copy.likes.length cl, .int .i64 v.copy.apart, .string v.copy.near, .string v.copy.fixed, .string v.copy.at_, .string v.name, .string v.at_]
section
variable {p pf : Nat} {pk : Bool} {vb vs vc : Value} {v : Evt} {am : Option Addr} {cm : Nat} {al : Option Addr} {cl : Nat} {t : TypeId} {w : World}
theorem chB (h : Blk p (chV pf pk vb vs vc v am cm al cl) t w) : w.rangeAt p 6 [.string v.berth.name, .string v.berth.zone, .slice am v.berth.marks.length cm, .int .i64 v.berth.room, .int .i64 v.berth.hold, .bool v.berth.closed] := range_cons (h.cell rfl) (range_cons (h.cell rfl) (range_cons (h.cell rfl) (range_cons (h.cell rfl) (range_cons (h.cell rfl) (range_cons (h.cell rfl) (range_nil _ _ _))))))
theorem chC (h : Blk p (chV pf pk vb vs vc v am cm al cl) t w) : w.rangeAt p 12 [.string v.copy.name, .string v.copy.service, .int .i64 v.copy.rank, .int .i64 v.copy.born, .int .i64 v.copy.room, .int .i64 v.copy.hold, .string v.copy.select, .slice al v.copy.likes.length cl, .int .i64 v.copy.apart, .string v.copy.near, .string v.copy.fixed, .string v.copy.at_] := range_cons (h.cell rfl) (range_cons (h.cell rfl) (range_cons (h.cell rfl) (range_cons (h.cell rfl) (range_cons (h.cell rfl) (range_cons (h.cell rfl) (range_cons (h.cell rfl) (range_cons (h.cell rfl) (range_cons (h.cell rfl) (range_cons (h.cell rfl) (range_cons (h.cell rfl) (range_cons (h.cell rfl) (range_nil _ _ _))))))))))))
theorem chF (h : Blk p (chV pf pk vb vs vc v am cm al cl) t w) : w.rangeAt p 1 [.bool pk, vb, vs, vc] := range_cons (h.cell rfl) (range_cons (h.cell rfl) (range_cons (h.cell rfl) (range_cons (h.cell rfl) (range_nil _ _ _))))
end

theorem asc_mono2 {α : Type} {nm : α → ByteArray} {xs : List α} (h : AscN (xs.map nm)) (s : ByteArray) : ∀ (j k : Nat) u v, j ≤ k → xs[j]? = some u → xs[k]? = some v → Lib.compareBytes (nm v).data.toList s.data.toList < 0 → Lib.compareBytes (nm u).data.toList s.data.toList < 0 := by
 intro j k u v hjk hu hv hl
 by_cases e : j = k
 ·subst e
  rw [hu] at hv
  cases hv
  exact hl
 ·have h1 := h.less (map_get (f := nm) hu) (map_get (f := nm) hv) (by omega)
  exact (ltN_iff _ _).1 (bl_tr _ _ _ h1 ((ltN_iff _ _).2 hl))

theorem wpAnyU_only {P : Program} {ops : Array Oper} {Q : Exit → Act → World → Prop} {md : Region.Mode} {S : World → Prop} {s i : Nat} {oi : Oper} {v : Value} {n : Nat} {l : Array Bool} {a : Act} {w : World} (hi : ops[i]? = some oi) (hr : Region.ready md ops l = [i]) (hy : YieldsIf P ops S oi v a) (hS : S w)
  (h : wpAnyU P md ops Q s S n (l.setIfInBounds i true) (a.put oi.dst v) w) : wpAnyU P md ops Q s S (n + 1) l a w :=
 ⟨fun h0 => (by rw [hr] at h0; cases h0), (by rw [hr]; intro j hj; rw [List.mem_singleton.1 hj]; exact hy.wpOp hi hS ⟨fun _ => hS, h⟩)⟩

structure AcPre (x : Flt) (v : Evt) (pf p m1 m2 m3 m4 b1 o1 c1 : Nat) (a2 : Option Addr) (c2 b3 o3 c3 : Nat) (am : Option Addr) (cm : Nat) (al : Option Addr) (cl lo : Nat) (W0 w : World) : Prop where
 n1 : SliceC BrtC 6 lo W0 (some ⟨b1, o1, none⟩) x.berths
 n3 : SliceC CpyC 12 lo W0 (some ⟨b3, o3, none⟩) x.copies
 nm : SliceC StrC 1 lo W0 am v.berth.marks
 nl : SliceC LikC 2 lo W0 al v.copy.likes
 hlo : lo ≤ W0.heap.size
 hc1 : x.berths.length ≤ c1
 hm1 : c1 ≤ maxLen
 hc3 : x.copies.length ≤ c3
 hm3 : c3 ≤ maxLen
 z1 : SzB (v.berth :: x.berths)
 z3 : SzC (v.copy :: x.copies)
 zn : v.name.size ≤ maxLen
 za : v.at_.size ≤ maxLen
 hv : validI x = true
 hB : Below W0.heap.size W0 w
 hp : W0.heap.size ≤ p
 hK : Blk p (chV pf x.pack (.slice (some ⟨b1, o1, none⟩) x.berths.length c1) (.slice a2 x.services.length c2) (.slice (some ⟨b3, o3, none⟩) x.copies.length c3) v am cm al cl) 76 w
 hF : Found pf m1 m2 m3 m4 x (some ⟨b1, o1, none⟩) c1 a2 c2 (some ⟨b3, o3, none⟩) c3 w

def AcRes (x : Flt) (v : Evt) (pf p : Nat) (a2 : Option Addr) (c2 : Nat) (am : Option Addr) (cm : Nat) (al : Option Addr) (cl lo : Nat) (w : World) (e : Ending) (w' : World) : Prop :=
 (evF x v = none ∧ e = .returned (.int .i64 3) ∧ Below p w w' ∧ w'.cell? ⟨p, 5, none⟩ = some (.int .i64 v.kind)) ∨ ∃ (y : Flt) (d1 : Option Addr) (q1 : Nat) (d3 : Option Addr) (q3 : Nat), evF x v = some y ∧ e = .returned (.int .i64 0) ∧ y.pack = x.pack ∧ y.services = x.services ∧ y.berths.length ≤ 13 ∧ y.copies.length ≤ 61 ∧ Blk p (chV pf x.pack (.slice d1 y.berths.length q1) (.slice a2 x.services.length c2) (.slice d3 y.copies.length q3) v am cm al cl) 76 w' ∧ SliceC BrtC 6 lo w' d1 y.berths ∧ SliceC CpyC 12 lo w' d3 y.copies ∧ Below p w w'

theorem kept_set {p base : Nat} {T : TypeId} {n : Nat} {vv : Value} {k i : Nat} {ds : List Value} {w : World} (h : w.ownsRow base T n vv k ds) (hp : p < base) (u : Value) : (w.setCell ⟨p, i, none⟩ u).ownsRow base T n vv k ds := by
 refine h.kept (grownBy_cell w ⟨p, i, none⟩ u) ?_
 cases e : vv.ownBlock with
 | none => exact .inl rfl
 | some b =>
  refine .inr (fun e2 => ?_)
  have h9 := (h.lt b e).1
  have e3 : b = p := Option.some.inj e2
  omega
theorem own_form {base : Nat} {T : TypeId} {n : Nat} {vv : Value} {k : Nat} {ds : List Value} {w : World} (h : w.ownsRow base T n vv k ds) : ∃ d q, vv = .slice d k q := by
 rcases h.2 with ⟨h1, h2⟩ | ⟨g, cap, cur, h1, _⟩
 ·exact ⟨none, 0, by rw [h1, h2]⟩
 ·exact ⟨_, cap, h1⟩
theorem below_set {p i : Nat} {a b : World} (h : Below p a b) (u : Value) : Below p a (b.setCell ⟨p, i, none⟩ u) := h.setCell (p := ⟨p, i, none⟩) nL u

set_option maxHeartbeats 4000000 in
set_option maxRecDepth 100000 in
theorem setBrt_any (x : Flt) (v : Evt) (pf p m1 m2 m3 m4 b1 o1 c1 : Nat) (a2 : Option Addr) (c2 b3 o3 c3 : Nat) (am : Option Addr) (cm : Nat) (al : Option Addr) (cl lo : Nat) (W0 w : World) (H : AcPre x v pf p m1 m2 m3 m4 b1 o1 c1 a2 c2 b3 o3 c3 am cm al cl lo W0 w) (hkd : v.kind = 1) :
  Calls Tryz.prog 97 #[.pointer (some ⟨p, 0, none⟩)] w fun e w' => AcRes x v pf p a2 c2 am cm al cl lo w e w' := by
 have HEV : Hid (evF x v = some { x with berths := (putN Brt.name x.berths v.berth) }) := by
  show evF x v = _
  simp [evF, hkd]
 have HA := iH (valid_more H.hv).2.1
 have hl1 : x.berths.length ≤ 13 := Nat.le_trans (valid_more H.hv).1 (by omega)
 have hl3 : x.copies.length ≤ 61 := Nat.le_trans (valid_parts H.hv).2.1 (by omega)
 have hln : (putN Brt.name x.berths v.berth).length ≤ 13 := Nat.le_trans (putN_len _ _ _) (by have h8 := (valid_more H.hv).1; have h9 := (valid_parts H.hv).2.1; omega)
 have HP := iH H
 have HK := iH H.hK
 have hB := H.hB
 clear H hkd
 go_enter Tryz.func97, Tryz.ntmps97
 go_upto_region 1 with fail
 refine wp_region_until (S := fun wy => Blk p (chV pf x.pack (.slice (some ⟨b1, o1, none⟩) x.berths.length c1) (.slice a2 x.services.length c2) (.slice (some ⟨b3, o3, none⟩) x.copies.length c3) v am cm al cl) 76 wy) 15 (by kernel_rfl) HK.out.drew (fun hS => ?_)
 replace hB := hB.drew
 have hBp : Below p w w.drew := (Below.refl p w).drew
 replace HK := iH HK.out.drew
 have hpd : p < w.drew.heap.size := HK.out.lt
 generalize w.drew = wn at *
 refine tv 0 ⟨some 3, _, _, _, _, none⟩ (.pointer (some ⟨p, 0, none⟩)) rfl (by rfl) ?_ hS ?_
 ·intro wy hy
  clear hy
  go_simp
 simp only [pA,pB,pC,pD]
 refine tv 1 ⟨some 4, _, _, _, _, none⟩ (.pointer (some ⟨p, 0, none⟩)) rfl (by rfl) ?_ hS ?_
 ·intro wy hy
  clear hy
  go_simp
 simp only [pA,pB,pC,pD]
 refine tv 2 ⟨some 5, _, _, _, _, none⟩ (.pointer (some ⟨p, 0, none⟩)) rfl (by rfl) ?_ hS ?_
 ·intro wy hy
  clear hy
  go_simp
 simp only [pA,pB,pC,pD]
 refine tv 3 ⟨some 6, _, _, _, _, none⟩ (.pointer (some ⟨p, 1, none⟩)) rfl (by rfl) ?_ hS ?_
 ·intro wy hy
  clear hy
  go_simp
 simp only [pA,pB,pC,pD]
 refine tv 4 ⟨some 7, _, _, _, _, none⟩ (.pointer (some ⟨p, 2, none⟩)) rfl (by rfl) ?_ hS ?_
 ·intro wy hy
  clear hy
  go_simp
 simp only [pA,pB,pC,pD]
 refine tv 5 ⟨some 8, _, _, _, _, none⟩ (.slice (some ⟨b1, o1, none⟩) x.berths.length c1) rfl (by rfl) ?_ hS ?_
 ·intro wy hy
  have h0 : wy.cell? ⟨p, 2, none⟩ = some (.slice (some ⟨b1, o1, none⟩) x.berths.length c1) := Blk.cell hy rfl
  clear hy
  go_simp
 simp only [pA,pB,pC,pD]
 refine tv 6 ⟨some 9, _, _, _, _, none⟩ (.pointer (some ⟨p, 0, none⟩)) rfl (by rfl) ?_ hS ?_
 ·intro wy hy
  clear hy
  go_simp
 simp only [pA,pB,pC,pD]
 refine tv 7 ⟨some 10, _, _, _, _, none⟩ (.pointer (some ⟨p, 0, none⟩)) rfl (by rfl) ?_ hS ?_
 ·intro wy hy
  clear hy
  go_simp
 simp only [pA,pB,pC,pD]
 refine tv 8 ⟨some 11, _, _, _, _, none⟩ (.pointer (some ⟨p, 5, none⟩)) rfl (by rfl) ?_ hS ?_
 ·intro wy hy
  clear hy
  go_simp
 simp only [pA,pB,pC,pD]
 refine tv 9 ⟨some 12, _, _, _, _, none⟩ (.pointer (some ⟨p, 6, none⟩)) rfl (by rfl) ?_ hS ?_
 ·intro wy hy
  clear hy
  go_simp
 simp only [pA,pB,pC,pD]
 refine tu 10 ⟨some 13, _, _, _, _, none⟩ (.agg #[.string v.berth.name, .string v.berth.zone, .slice am v.berth.marks.length cm, .int .i64 v.berth.room, .int .i64 v.berth.hold, .bool v.berth.closed]) rfl (yieldsIf_load_mid (by rfl) _ _ rfl p (6) rfl [.string v.berth.name, .string v.berth.zone, .slice am v.berth.marks.length cm, .int .i64 v.berth.room, .int .i64 v.berth.hold, .bool v.berth.closed] _ (fun _ h => chB h) Tryz.underlying45 rfl isz_Brt) hS ?_
 simp only [pA,pB,pC,pD]
 refine ru1 11 ⟨some 14, _, _, _, _, none⟩ rfl (fun KK hKK => ?_)
 go_simp
 refine (putBrt_any x.berths v.berth b1 o1 am c1 cm lo W0 _ hB HP.out.n1 HP.out.nm (by omega) HP.out.hc1 HP.out.hm1 (asc_mono2 HA.out _)).mono ?_
 rintro e w5 ⟨vv, ds, rfl, hO, hE, hb5⟩
 obtain ⟨d, q, rfl⟩ := own_form hO
 have HO := iH hO
 have HE := iH hE
 have hB5 := hB.trans (hb5.mono hB.size)
 have hBp5 := hBp.trans (hb5.mono (Nat.le_of_lt hpd))
 have HK5 := iH (HK.out.below hb5 HK.out.lt)
 refine hKK.out _ _ HK5.out (fun hS => ?_)
 clear hKK KK hO hE hb5 hB hBp HK
 refine wpAnyU_only (i := 12) (oi := ⟨some 15, _, _, _, _, none⟩) (v := .pointer (some ⟨p, 0, none⟩)) rfl (by kernel_rfl) (Or.inl ⟨by rfl, ?_⟩) hS ?_
 ·intro wy hy
  clear hy
  go_simp
 simp only [pA,pB,pC,pD]
 refine wpAnyU_only (i := 13) (oi := ⟨some 16, _, _, _, _, none⟩) (v := .pointer (some ⟨p, 1, none⟩)) rfl (by kernel_rfl) (Or.inl ⟨by rfl, ?_⟩) hS ?_
 ·intro wy hy
  clear hy
  go_simp
 simp only [pA,pB,pC,pD]
 refine tv 14 ⟨some 17, _, _, _, _, none⟩ (.pointer (some ⟨p, 2, none⟩)) rfl (by rfl) ?_ hS ?_
 ·intro wy hy
  clear hy
  go_simp
 simp only [pA,pB,pC,pD]
 have kz := HK5.out.cell (o := 2) rfl
 have fz := HK5.out.frozen 2
 refine wpAnyU_ready (rs := [15]) (by kernel_rfl) (by simp) (AllReadyU.last (o := ⟨none, _, _, _, _, none⟩) rfl (fun KK hKK => ?_))
 go_simp
 clear kz fz
 have HK6 : Hid (Blk p (chV pf x.pack ((.slice d (putN Brt.name x.berths v.berth).length q)) (.slice a2 x.services.length c2) (.slice (some ⟨b3, o3, none⟩) x.copies.length c3) v am cm al cl) 76 (w5.setCell ⟨p, 2, none⟩ (.slice d (putN Brt.name x.berths v.berth).length q))) := HK5.out.set 2 _
 have HO6 := iH (kept_set (i := 2) HO.out hpd (.slice d (putN Brt.name x.berths v.berth).length q))
 have hBp6 := below_set (i := 2) hBp5 (.slice d (putN Brt.name x.berths v.berth).length q)
 have hB6 : Below W0.heap.size W0 (w5.setCell ⟨p, 2, none⟩ (.slice d (putN Brt.name x.berths v.berth).length q)) := hB5.setCell (p := ⟨p, 2, none⟩) HP.out.hp _
 refine hKK.out _ _ (wpAnyU_done (by kernel_rfl) ?_ _)
 clear hKK KK hS HO HK5 hB5 hBp5
 generalize w5.setCell ⟨p, 2, none⟩ (.slice d (putN Brt.name x.berths v.berth).length q) = w6 at *
 obtain ⟨d9, q9, e9, hsl⟩ := rowBrt HO6.out (Nat.le_trans HP.out.hlo (Nat.le_trans HP.out.hp (Nat.le_of_lt hpd))) (HE.out.below StrC.holds hB6 nL) (fun y hy => HP.out.z1 y (by rcases putN_mem hy with h | h <;> simp [h])) (by unfold maxLen; omega)
 have e8 : d = d9 := by injection e9
 subst e8
 have HSL := iH hsl
 clear hsl HO6 HE e9
 go_wp2_with fail
 go_ret
 exact .inr ⟨{ x with berths := (putN Brt.name x.berths v.berth) }, d, q, some ⟨b3, o3, none⟩, c3, HEV.out, rfl, rfl, rfl, hln, hl3, HK6.out, HSL.out, HP.out.n3.below CpyC.holds hB6 nL, hBp6⟩

set_option maxHeartbeats 4000000 in
set_option maxRecDepth 100000 in
theorem setCpy_any (x : Flt) (v : Evt) (pf p m1 m2 m3 m4 b1 o1 c1 : Nat) (a2 : Option Addr) (c2 b3 o3 c3 : Nat) (am : Option Addr) (cm : Nat) (al : Option Addr) (cl lo : Nat) (W0 w : World) (H : AcPre x v pf p m1 m2 m3 m4 b1 o1 c1 a2 c2 b3 o3 c3 am cm al cl lo W0 w) (hkd : v.kind = 3) :
  Calls Tryz.prog 99 #[.pointer (some ⟨p, 0, none⟩)] w fun e w' => AcRes x v pf p a2 c2 am cm al cl lo w e w' := by
 have HEV : Hid (evF x v = some { x with copies := (putN Cpy.name x.copies v.copy) }) := by
  show evF x v = _
  simp [evF, hkd]
 have HA := iH (valid_parts H.hv).2.2.2.1
 have hl1 : x.berths.length ≤ 13 := Nat.le_trans (valid_more H.hv).1 (by omega)
 have hl3 : x.copies.length ≤ 61 := Nat.le_trans (valid_parts H.hv).2.1 (by omega)
 have hln : (putN Cpy.name x.copies v.copy).length ≤ 61 := Nat.le_trans (putN_len _ _ _) (by have h8 := (valid_more H.hv).1; have h9 := (valid_parts H.hv).2.1; omega)
 have HP := iH H
 have HK := iH H.hK
 have hB := H.hB
 clear H hkd
 go_enter Tryz.func99, Tryz.ntmps99
 go_upto_region 1 with fail
 refine wp_region_until (S := fun wy => Blk p (chV pf x.pack (.slice (some ⟨b1, o1, none⟩) x.berths.length c1) (.slice a2 x.services.length c2) (.slice (some ⟨b3, o3, none⟩) x.copies.length c3) v am cm al cl) 76 wy) 15 (by kernel_rfl) HK.out.drew (fun hS => ?_)
 replace hB := hB.drew
 have hBp : Below p w w.drew := (Below.refl p w).drew
 replace HK := iH HK.out.drew
 have hpd : p < w.drew.heap.size := HK.out.lt
 generalize w.drew = wn at *
 refine tv 0 ⟨some 3, _, _, _, _, none⟩ (.pointer (some ⟨p, 0, none⟩)) rfl (by rfl) ?_ hS ?_
 ·intro wy hy
  clear hy
  go_simp
 simp only [pA,pB,pC,pD]
 refine tv 1 ⟨some 4, _, _, _, _, none⟩ (.pointer (some ⟨p, 0, none⟩)) rfl (by rfl) ?_ hS ?_
 ·intro wy hy
  clear hy
  go_simp
 simp only [pA,pB,pC,pD]
 refine tv 2 ⟨some 5, _, _, _, _, none⟩ (.pointer (some ⟨p, 0, none⟩)) rfl (by rfl) ?_ hS ?_
 ·intro wy hy
  clear hy
  go_simp
 simp only [pA,pB,pC,pD]
 refine tv 3 ⟨some 6, _, _, _, _, none⟩ (.pointer (some ⟨p, 1, none⟩)) rfl (by rfl) ?_ hS ?_
 ·intro wy hy
  clear hy
  go_simp
 simp only [pA,pB,pC,pD]
 refine tv 4 ⟨some 7, _, _, _, _, none⟩ (.pointer (some ⟨p, 4, none⟩)) rfl (by rfl) ?_ hS ?_
 ·intro wy hy
  clear hy
  go_simp
 simp only [pA,pB,pC,pD]
 refine tv 5 ⟨some 8, _, _, _, _, none⟩ (.slice (some ⟨b3, o3, none⟩) x.copies.length c3) rfl (by rfl) ?_ hS ?_
 ·intro wy hy
  have h0 : wy.cell? ⟨p, 4, none⟩ = some (.slice (some ⟨b3, o3, none⟩) x.copies.length c3) := Blk.cell hy rfl
  clear hy
  go_simp
 simp only [pA,pB,pC,pD]
 refine tv 6 ⟨some 9, _, _, _, _, none⟩ (.pointer (some ⟨p, 0, none⟩)) rfl (by rfl) ?_ hS ?_
 ·intro wy hy
  clear hy
  go_simp
 simp only [pA,pB,pC,pD]
 refine tv 7 ⟨some 10, _, _, _, _, none⟩ (.pointer (some ⟨p, 0, none⟩)) rfl (by rfl) ?_ hS ?_
 ·intro wy hy
  clear hy
  go_simp
 simp only [pA,pB,pC,pD]
 refine tv 8 ⟨some 11, _, _, _, _, none⟩ (.pointer (some ⟨p, 5, none⟩)) rfl (by rfl) ?_ hS ?_
 ·intro wy hy
  clear hy
  go_simp
 simp only [pA,pB,pC,pD]
 refine tv 9 ⟨some 12, _, _, _, _, none⟩ (.pointer (some ⟨p, 12, none⟩)) rfl (by rfl) ?_ hS ?_
 ·intro wy hy
  clear hy
  go_simp
 simp only [pA,pB,pC,pD]
 refine tu 10 ⟨some 13, _, _, _, _, none⟩ (.agg #[.string v.copy.name, .string v.copy.service, .int .i64 v.copy.rank, .int .i64 v.copy.born, .int .i64 v.copy.room, .int .i64 v.copy.hold, .string v.copy.select, .slice al v.copy.likes.length cl, .int .i64 v.copy.apart, .string v.copy.near, .string v.copy.fixed, .string v.copy.at_]) rfl (yieldsIf_load_mid (by rfl) _ _ rfl p (12) rfl [.string v.copy.name, .string v.copy.service, .int .i64 v.copy.rank, .int .i64 v.copy.born, .int .i64 v.copy.room, .int .i64 v.copy.hold, .string v.copy.select, .slice al v.copy.likes.length cl, .int .i64 v.copy.apart, .string v.copy.near, .string v.copy.fixed, .string v.copy.at_] _ (fun _ h => chC h) Tryz.underlying48 rfl isz_Cpy) hS ?_
 simp only [pA,pB,pC,pD]
 refine ru1 11 ⟨some 14, _, _, _, _, none⟩ rfl (fun KK hKK => ?_)
 go_simp
 refine (putCpy_any x.copies v.copy b3 o3 al c3 cl lo W0 _ hB HP.out.n3 HP.out.nl (by omega) HP.out.hc3 HP.out.hm3 (asc_mono2 HA.out _)).mono ?_
 rintro e w5 ⟨vv, ds, rfl, hO, hE, hb5⟩
 obtain ⟨d, q, rfl⟩ := own_form hO
 have HO := iH hO
 have HE := iH hE
 have hB5 := hB.trans (hb5.mono hB.size)
 have hBp5 := hBp.trans (hb5.mono (Nat.le_of_lt hpd))
 have HK5 := iH (HK.out.below hb5 HK.out.lt)
 refine hKK.out _ _ HK5.out (fun hS => ?_)
 clear hKK KK hO hE hb5 hB hBp HK
 refine wpAnyU_only (i := 12) (oi := ⟨some 15, _, _, _, _, none⟩) (v := .pointer (some ⟨p, 0, none⟩)) rfl (by kernel_rfl) (Or.inl ⟨by rfl, ?_⟩) hS ?_
 ·intro wy hy
  clear hy
  go_simp
 simp only [pA,pB,pC,pD]
 refine wpAnyU_only (i := 13) (oi := ⟨some 16, _, _, _, _, none⟩) (v := .pointer (some ⟨p, 1, none⟩)) rfl (by kernel_rfl) (Or.inl ⟨by rfl, ?_⟩) hS ?_
 ·intro wy hy
  clear hy
  go_simp
 simp only [pA,pB,pC,pD]
 refine tv 14 ⟨some 17, _, _, _, _, none⟩ (.pointer (some ⟨p, 4, none⟩)) rfl (by rfl) ?_ hS ?_
 ·intro wy hy
  clear hy
  go_simp
 simp only [pA,pB,pC,pD]
 have kz := HK5.out.cell (o := 4) rfl
 have fz := HK5.out.frozen 4
 refine wpAnyU_ready (rs := [15]) (by kernel_rfl) (by simp) (AllReadyU.last (o := ⟨none, _, _, _, _, none⟩) rfl (fun KK hKK => ?_))
 go_simp
 clear kz fz
 have HK6 : Hid (Blk p (chV pf x.pack (.slice (some ⟨b1, o1, none⟩) x.berths.length c1) (.slice a2 x.services.length c2) ((.slice d (putN Cpy.name x.copies v.copy).length q)) v am cm al cl) 76 (w5.setCell ⟨p, 4, none⟩ (.slice d (putN Cpy.name x.copies v.copy).length q))) := HK5.out.set 4 _
 have HO6 := iH (kept_set (i := 4) HO.out hpd (.slice d (putN Cpy.name x.copies v.copy).length q))
 have hBp6 := below_set (i := 4) hBp5 (.slice d (putN Cpy.name x.copies v.copy).length q)
 have hB6 : Below W0.heap.size W0 (w5.setCell ⟨p, 4, none⟩ (.slice d (putN Cpy.name x.copies v.copy).length q)) := hB5.setCell (p := ⟨p, 4, none⟩) HP.out.hp _
 refine hKK.out _ _ (wpAnyU_done (by kernel_rfl) ?_ _)
 clear hKK KK hS HO HK5 hB5 hBp5
 generalize w5.setCell ⟨p, 4, none⟩ (.slice d (putN Cpy.name x.copies v.copy).length q) = w6 at *
 obtain ⟨d9, q9, e9, hsl⟩ := rowCpy HO6.out (Nat.le_trans HP.out.hlo (Nat.le_trans HP.out.hp (Nat.le_of_lt hpd))) (HE.out.below LikC.holds hB6 nL) (fun y hy => HP.out.z3 y (by rcases putN_mem hy with h | h <;> simp [h])) (by unfold maxLen; omega)
 have e8 : d = d9 := by injection e9
 subst e8
 have HSL := iH hsl
 clear hsl HO6 HE e9
 go_wp2_with fail
 go_ret
 exact .inr ⟨{ x with copies := (putN Cpy.name x.copies v.copy) }, some ⟨b1, o1, none⟩, c1, d, q, HEV.out, rfl, rfl, rfl, hl1, hln, HK6.out, HP.out.n1.below BrtC.holds hB6 nL, HSL.out, hBp6⟩

end Go.Proofs.YtihnjndnkgnmaaaGreat
