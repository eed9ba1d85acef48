import Derived.Test.YtmclbfkcbadnpaaGreatProg
import Derived.Test.YtmclbfkcbadnpaaGreatShp
import Derived.Shelf.Spec.SlicesInsert
import Derived.Lib.AppendZerosOnto
import Derived.Laws.NewBlocks
import Derived.Deep.RegionLaw
import Derived.Test.YtmclbfkcbadnpaaGreatJ38
import Derived.Test.YtmclbfkcbadnpaaGreatJ39
import Derived.Test.YtmclbfkcbadnpaaGreatFrt
import Derived.Test.YtmclbfkcbadnpaaGreatJ34
namespace Go.Proofs.YtmclbfkcbadnpaaGreat
open Go.RowKit Go.Lib Go.Shelf

theorem isz_Rsn : (Tryz.prog.info? 110).map (·.size) = some 2 := by kernel_rfl

end Go.Proofs.YtmclbfkcbadnpaaGreat

namespace Go.Proofs.YtmclbfkcbadnpaaGreat
open Go.RowKit Go.WideMaps Go.Maps

def firstR : List (Int × Nat × Bool) → Int
 | [] => 0
 | r :: rest => if r.2.2 = true then r.1 else firstR rest

theorem firstR_hit : ∀ (rs : List (Int × Nat × Bool)) (k : Nat) (r : Int × Nat × Bool), rs[k]? = some r → r.2.2 = true → (∀ (j : Nat) q, j < k → rs[j]? = some q → q.2.2 = false) → firstR rs = r.1
 | [], k, r, h, _, _ => by simp at h
 | a :: rest, 0, r, h, ht, _ => by
  simp at h
  subst h
  simp [firstR, ht]
 | a :: rest, k + 1, r, h, ht, hf => by
  have h0 := hf 0 a (by omega) rfl
  simp only [firstR, h0]
  rw [if_neg (by simp)]
  exact firstR_hit rest k r (by simpa using h) ht (fun j q hj hq => hf (j + 1) q (by omega) (by simpa using hq))

theorem firstR_none : ∀ (rs : List (Int × Nat × Bool)), (∀ (j : Nat) q, j < rs.length → rs[j]? = some q → q.2.2 = false) → firstR rs = 0
 | [], _ => rfl
 | a :: rest, hf => by
  have h0 := hf 0 a (by simp) rfl
  simp only [firstR, h0]
  rw [if_neg (by simp)]
  exact firstR_none rest (fun j q hj hq => hf (j + 1) q (by simp; omega) (by simpa using hq))

def RsnIn (rb : Nat) (rs : List (Int × Nat × Bool)) (w : World) : Prop := ∀ (k : Nat) r, rs[k]? = some r → w.cell? ⟨rb, k * 2, none⟩ = some (.int .i64 r.1) ∧ w.cell? ⟨rb, k * 2 + 1, none⟩ = some (.func (.func r.2.1) #[] #[])

theorem some_ne {α : Type} {l : List α} {k : Nat} {a : α} (h : l[k]? = some a) : l ≠ [] := fun e => by rw [e] at h; cases h

theorem services_ne {x : Flt} (hv : validI x = true) {k : Nat} {c : Cpy} (h : x.copies[k]? = some c) : x.services ≠ [] := by
 obtain ⟨_, _, _, _, _, hs⟩ := valid_parts hv
 obtain ⟨j, hj⟩ := hs k c h
 intro e
 rw [e] at hj
 cases hj

set_option maxHeartbeats 2000000 in
set_option maxRecDepth 100000 in
theorem firstOf_any (W : World) (lo p m1 m2 m3 m4 ci bi : Nat) (x : Flt) (a1 : Option Addr) (c1 : Nat) (a2 : Option Addr) (c2 : Nat) (a3 : Option Addr) (c3 : Nat) (y : Cpy) (a7 : Option Addr) (c7 : Nat) (b : Brt) (am : Option Addr) (cm : Nat) (u1 u2 u3 : Int) (rs : List (Int × Nat × Bool)) (rb rc n : Nat) (w : World) (hK : SpotK W lo p m4 ci bi x a1 a3 y a7 b am) (hrl : rs.length ≤ 8) (hn : n ≤ 800)
  (hsay : ∀ (k : Nat) r, rs[k]? = some r → Says r.2.1 r.2.2 W p m1 m2 m3 m4 ci bi x a1 c1 a2 c2 a3 c3 y a7 c7 b am cm u1 u2 u3) (heg : ∀ (k : Nat) r, rs[k]? = some r → ∀ args w, (callFunc r.2.1 args).run Tryz.prog w = .ok (.enter r.2.1 args) w)
  (hW : Below W.heap.size W w) (hF : FoundM p m1 m2 m3 m4 n x a1 c1 a2 c2 a3 c3 w) (hR : RsnIn rb rs w) (hrb : rb < w.heap.size) (hrm : rb ≠ m4) :
  Calls Tryz.prog 30 #[.slice (some ⟨rb, 0, none⟩) rs.length rc, .agg (spotA p ci bi y a7 c7 b am cm u1 u2 u3)] w fun e w' => e = .returned (.int .i64 (firstR rs)) ∧ MemoAt m4 (n + 8) x.berths w' ∧ But m4 w.heap.size w w' := by
 obtain ⟨hp, hm4, n1, n3, n7, nm, hv, hy, hb⟩ := hK
 have e1 := some_ne hb
 have e2 := services_ne hv hy
 have e3 := some_ne hy
 have hm4w : m4 < w.heap.size := hF.memo.lt
 have HW := Hid.intro hW
 have HF := Hid.intro hF
 have HR := Hid.intro hR
 have HSAY := Hid.intro hsay
 have HEG := Hid.intro heg
 have HE1 := Hid.intro e1
 have HE2 := Hid.intro e2
 have HE3 := Hid.intro e3
 clear n1 n3 n7 nm hv hy hb hW hF hR hsay heg e1 e2 e3
 go_enter Tryz.func30, Tryz.ntmps30
 go_wp2_with fail
 have hb0 : Below w.heap.size w (w.alloc (Obj.cells (spotA p ci bi y a7 c7 b am cm u1 u2 u3) 63)) := (Below.refl _ w).alloc (Nat.le_refl _) _
 have HX0 : Hid (Blk w.heap.size (spotA p ci bi y a7 c7 b am cm u1 u2 u3) 63 (w.alloc (Obj.cells (spotA p ci bi y a7 c7 b am cm u1 u2 u3) 63))) := Blk.alloc _ _ _
 have HF0 := Hid.intro (HF.out.below hb0)
 have HB0 : Hid (But m4 w.heap.size w (w.alloc (Obj.cells (spotA p ci bi y a7 c7 b am cm u1 u2 u3) 63))) := But.of_below hb0
 have hs0 : w.heap.size < (w.alloc (Obj.cells (spotA p ci bi y a7 c7 b am cm u1 u2 u3) 63)).heap.size := by simp
 generalize w.alloc (Obj.cells (spotA p ci bi y a7 c7 b am cm u1 u2 u3) 63) = w0 at *
 clear hb0
 go_loopw [9] (fun i wr => ∃ k : Nat, k ≤ rs.length ∧ i = .int .i64 k ∧ w.heap.size < wr.heap.size ∧ Hid (∀ (j : Nat) q, j < k → rs[j]? = some q → q.2.2 = false) ∧ Hid (FoundM p m1 m2 m3 m4 (n + k) x a1 c1 a2 c2 a3 c3 wr) ∧ Hid (Blk w.heap.size (spotA p ci bi y a7 c7 b am cm u1 u2 u3) 63 wr) ∧ Hid (But m4 w.heap.size w wr)) (fun i _ => rs.length - (intOf i).toNat)
 case atStart => exact ⟨0, Nat.zero_le _, rfl, hs0, fun j q h => by omega, HF0, HX0, HB0⟩
 case round =>
  clear HF0 HX0 HB0 hs0
  obtain ⟨k, hk, rfl, hs1, hN, hF1, hX1, hB1⟩ := hrel
  by_cases hlt : k < rs.length
  ·obtain ⟨r, hr⟩ : ∃ r, rs[k]? = some r := ⟨rs[k], List.getElem?_eq_getElem hlt⟩
   obtain ⟨q0, q1⟩ := HR.out k r hr
   have c0 : wr.cell? ⟨rb, k * 2, none⟩ = some (.int .i64 r.1) := (hB1.out.cell (a := ⟨rb, k * 2, none⟩) hrb hrm).trans q0
   have c1' : wr.cell? ⟨rb, k * 2 + 1, none⟩ = some (.func (.func r.2.1) #[] #[]) := (hB1.out.cell (a := ⟨rb, k * 2 + 1, none⟩) hrb hrm).trans q1
   have HSK := Hid.intro (HSAY.out k r hr)
   have heg := HEG.out k r hr
   have HRR := Hid.intro hr
   obtain ⟨cd, fid, tr⟩ := r
   simp only at c0 c1' HSK heg
   clear q0 q1 hr
   have hza : Blk wr.heap.size #[.int .i64 0, .nilFunc] 110 (wr.alloc (Obj.cells #[.int .i64 0, .nilFunc] 110)) := Blk.alloc _ _ _
   have HTS : Hid ((wr.alloc (Obj.cells #[.int .i64 0, .nilFunc] 110)).there wr.heap.size 0 2) := hza.there
   obtain ⟨w4, HW4⟩ : ∃ w4, Hid (w4 = (wr.alloc (Obj.cells #[.int .i64 0, .nilFunc] 110)).setCells wr.heap.size 0 [.int .i64 cd, .func (.func fid) #[] #[]]) := ⟨_, rfl⟩
   have HK4 : Hid (Blk wr.heap.size #[.int .i64 cd, .func (.func fid) #[] #[]] 110 w4) := by
    show Blk _ _ _ _
    rw [HW4.out]
    exact hza.setAll #[.int .i64 cd, .func (.func fid) #[] #[]] rfl
   have hbx : Below wr.heap.size wr w4 := by
    rw [HW4.out]
    exact below_setCells (Nat.le_refl _) _ _ _ ((Below.refl _ wr).alloc (Nat.le_refl _) _)
   have HF4 := Hid.intro (hF1.out.below hbx)
   have HX4 := Hid.intro (hX1.out.below hbx hX1.out.lt)
   have HB4 : Hid (But m4 w.heap.size w w4) := hB1.out.trans (But.of_below (hbx.mono (Nat.le_of_lt hs1)))
   have hs4 : wr.heap.size < w4.heap.size := HK4.out.lt
   clear hza
   go_upto_region 4 with (first | (refine wpList_store_to rfl 110 _ _ rfl wr.heap.size 0 #[.int .i64 cd, .func (.func fid) #[] #[]] rfl rfl HTS.out isz_Rsn (by simp [Value.oneCell']) w4 HW4.out ?_))
   have k1 : w4.cell? ⟨wr.heap.size, 1, none⟩ = some (.func (.func fid) #[] #[]) := HK4.out.cell rfl
   clear hbx hF1 hX1 hB1 c0 c1'
   go_wp2_with (first | (refine wpList_load_mid rfl 63 _ rfl w.heap.size 0 (by first | rfl | (simp [go_sem]; done)) (spotA p ci bi y a7 c7 b am cm u1 u2 u3).toList _ HX4.out.rangeA Tryz.underlying63 rfl isz_Spot ?_))
   refine (HSK.out (n + k) w4 (by omega) (HW.out.trans (HB4.out.below HW.out.size hm4)) HF4.out).mono ?_
   rintro e w5 ⟨rfl, hm5, hb5⟩
   have HM5 := Hid.intro hm5
   have HF5 : Hid (FoundM p m1 m2 m3 m4 (n + (k + 1)) x a1 c1 a2 c2 a3 c3 w5) := HF4.out.but hb5 hm5 HE1.out HE2.out HE3.out
   have HB5 : Hid (But m4 w.heap.size w w5) := HB4.out.trans (hb5.mono (by omega))
   have HX5 : Hid (Blk w.heap.size (spotA p ci bi y a7 c7 b am cm u1 u2 u3) 63 w5) := (hb5.block w.heap.size (by omega) (by omega)).trans HX4.out
   have k0 : w5.cell? ⟨wr.heap.size, 0, none⟩ = some (.int .i64 cd) := (hb5.cell (a := ⟨wr.heap.size, 0, none⟩) hs4 (by show wr.heap.size ≠ m4; omega)).trans (HK4.out.cell rfl)
   have hs5 : w.heap.size < w5.heap.size := by have := hb5.size; omega
   clear hm5 hb5 k1 heg HSK
   cases tr with
   | true =>
    have HE := Hid.intro (firstR_hit rs k _ HRR.out rfl hN.out)
    go_wp2_with fail
    go_ret
    exact ⟨ret_int HE.out.symm, HM5.out.mono (by omega), HB5.out⟩
   | false =>
    have HN2 : Hid (∀ (j : Nat) q, j < k + 1 → rs[j]? = some q → q.2.2 = false) := fun j q hj hq => by
     by_cases e : j = k
     ·subst e
      have := HRR.out.symm.trans hq
      cases this
      rfl
     ·exact hN.out j q (by omega) hq
    go_wp2_with fail
    go_roundw
    case rel => exact ⟨k + 1, by omega, by go_num, hs5, HN2, HF5, HX5, HB5⟩
    case measure => simp [intOf]; omega
  ·have hke : k = rs.length := by omega
   subst hke
   have HE := Hid.intro (firstR_none rs hN.out)
   go_wp2_with fail
   go_ret
   exact ⟨ret_int HE.out.symm, hF1.out.memo.mono (by omega), hB1.out⟩

end Go.Proofs.YtmclbfkcbadnpaaGreat

namespace Go.Proofs.YtmclbfkcbadnpaaGreat
open Go.RowKit

abbrev stayV : List Value := [.int .i64 2, .func (.func 68) #[] #[], .int .i64 3, .func (.func 69) #[] #[], .int .i64 4, .func (.func 70) #[] #[], .int .i64 5, .func (.func 71) #[] #[], .int .i64 6, .func (.func 72) #[] #[], .int .i64 7, .func (.func 73) #[] #[], .int .i64 8, .func (.func 74) #[] #[]]
abbrev comeV : List Value := [.int .i64 1, .func (.func 62) #[] #[], .int .i64 2, .func (.func 68) #[] #[], .int .i64 3, .func (.func 69) #[] #[], .int .i64 4, .func (.func 70) #[] #[], .int .i64 5, .func (.func 71) #[] #[], .int .i64 6, .func (.func 72) #[] #[], .int .i64 7, .func (.func 73) #[] #[], .int .i64 8, .func (.func 74) #[] #[]]

set_option maxHeartbeats 1000000 in
set_option maxRecDepth 100000 in
theorem stay_any (w : World) :
  Calls Tryz.prog 36 #[] w fun e w' => e = .returned (.slice (some ⟨w.heap.size, 0, none⟩) 7 7) ∧ w'.rangeAt w.heap.size 0 stayV ∧ w.heap.size < w'.heap.size ∧ Below w.heap.size w w' := by
 go_enter Tryz.func36, Tryz.ntmps36
 go_wp2_with fail
 go_ret
 refine ⟨rfl, ?_, ?_, ?_⟩
 ·exact range_cons (by simp) (range_cons (by simp) (range_cons (by simp) (range_cons (by simp) (range_cons (by simp) (range_cons (by simp) (range_cons (by simp) (range_cons (by simp) (range_cons (by simp) (range_cons (by simp) (range_cons (by simp) (range_cons (by simp) (range_cons (by simp) (range_cons (by simp) (range_nil _ _ _))))))))))))))
 ·simp
 ·go_grown

end Go.Proofs.YtmclbfkcbadnpaaGreat

namespace Go.Proofs.YtmclbfkcbadnpaaGreat
open Go.RowKit Go.WideMaps Go.Maps

def stayR (x : Flt) (ci : Nat) (y : Cpy) (b : Brt) (u1 u2 u3 : Int) : List (Int × Nat × Bool) := [(2, 68, elsI y b), (3, 69, !asksI y.select b.marks b.zone), (4, 70, togI x ci y b), (5, 71, farI x ci y b), (6, 72, decide (10 ≤ u1)), (7, 73, decide (b.room < u2 + y.room)), (8, 74, decide (b.hold < u3 + y.hold))]
def comeR (x : Flt) (ci : Nat) (y : Cpy) (b : Brt) (u1 u2 u3 : Int) : List (Int × Nat × Bool) := (1, 62, b.closed) :: stayR x ci y b u1 u2 u3

theorem stay_first {x : Flt} {ci : Nat} {y : Cpy} {b : Brt} {u1 u2 u3 : Int} (h1 : u1 = standTo x ci b.name x.copies.length) (h2 : u2 = roomTo x ci b.name x.copies.length) (h3 : u3 = holdTo x ci b.name x.copies.length) : firstR (stayR x ci y b u1 u2 u3) = fitsI x ci y b true := by
 unfold stayR fitsI
 simp only [firstR, decide_eq_true_eq, Bool.not_eq_true', Bool.not_true, Bool.and_false, Bool.false_eq_true, if_false]
 rw [h1, h2, h3]

theorem says_of {f : Nat} {t : Bool} (W : World) (_lo p m1 m2 m3 m4 ci bi : Nat) (x : Flt) (a1 : Option Addr) (c1 : Nat) (a2 : Option Addr) (c2 : Nat) (a3 : Option Addr) (c3 : Nat) (y : Cpy) (a7 : Option Addr) (c7 : Nat) (b : Brt) (am : Option Addr) (cm : Nat) (u1 u2 u3 : Int) (h : ∀ w, Calls Tryz.prog f #[.agg (spotA p ci bi y a7 c7 b am cm u1 u2 u3)] w fun e w' => e = .returned (.bool t) ∧ Below w.heap.size w w') : Says f t W p m1 m2 m3 m4 ci bi x a1 c1 a2 c2 a3 c3 y a7 c7 b am cm u1 u2 u3 :=
 fun _ w _ _ hF => (h w).mono (fun _ _ ⟨he, hb⟩ => ⟨he, (hF.memo.below hb hF.memo.lt).mono (Nat.le_succ _), But.of_below hb⟩)

theorem come_says (W : World) (lo p m1 m2 m3 m4 ci bi : Nat) (x : Flt) (a1 : Option Addr) (c1 : Nat) (a2 : Option Addr) (c2 : Nat) (a3 : Option Addr) (c3 : Nat) (y : Cpy) (a7 : Option Addr) (c7 : Nat) (b : Brt) (am : Option Addr) (cm : Nat) (u1 u2 u3 : Int) (hK : SpotK W lo p m4 ci bi x a1 a3 y a7 b am) (h1 : 0 ≤ u2 ∧ u2 ≤ 60000) (h2 : 0 ≤ u3 ∧ u3 ≤ 60000) : ∀ r, r ∈ comeR x ci y b u1 u2 u3 → Says r.2.1 r.2.2 W p m1 m2 m3 m4 ci bi x a1 c1 a2 c2 a3 c3 y a7 c7 b am cm u1 u2 u3 := by
 have hk := hK
 obtain ⟨_, _, _, n3, _, _, hv, hy, _⟩ := hk
 obtain ⟨_, _, _, _, _, hc⟩ := n3.at hy
 obtain ⟨a8, c8, q0, q1, q2, q3, q4, q5, q6, q7, q8, q9, q10, q11, z0, z1, z6, z9, z10, z11, z7⟩ := hc
 have hr := ((valid_more hv).2.2.2 ci y hy).1
 have hh := ((valid_apart hv).1 ci y hy).1
 intro r hr'
 unfold comeR stayR at hr'
 simp only [List.mem_cons, List.not_mem_nil, or_false] at hr'
 rcases hr' with rfl | rfl | rfl | rfl | rfl | rfl | rfl | rfl
 ·exact says_of W lo p m1 m2 m3 m4 ci bi x a1 c1 a2 c2 a3 c3 y a7 c7 b am cm u1 u2 u3 (closed_any p ci bi y a7 c7 b am cm u1 u2 u3)
 ·exact says_of W lo p m1 m2 m3 m4 ci bi x a1 c1 a2 c2 a3 c3 y a7 c7 b am cm u1 u2 u3 (elsewhere_any p ci bi y a7 c7 b am cm u1 u2 u3)
 ·exact marked_any W lo p m1 m2 m3 m4 ci bi x a1 c1 a2 c2 a3 c3 y a7 c7 b am cm u1 u2 u3 hK z6
 ·exact together_any W lo p m1 m2 m3 m4 ci bi x a1 c1 a2 c2 a3 c3 y a7 c7 b am cm u1 u2 u3 hK
 ·exact far_any W lo p m1 m2 m3 m4 ci bi x a1 c1 a2 c2 a3 c3 y a7 c7 b am cm u1 u2 u3 hK
 ·exact says_of W lo p m1 m2 m3 m4 ci bi x a1 c1 a2 c2 a3 c3 y a7 c7 b am cm u1 u2 u3 (full_any p ci bi y a7 c7 b am cm u1 u2 u3)
 ·exact says_of W lo p m1 m2 m3 m4 ci bi x a1 c1 a2 c2 a3 c3 y a7 c7 b am cm u1 u2 u3 (fun w => roomless_any p ci bi y a7 c7 b am cm u1 u2 u3 w h1.1 h1.2 hr.1 hr.2)
 ·exact says_of W lo p m1 m2 m3 m4 ci bi x a1 c1 a2 c2 a3 c3 y a7 c7 b am cm u1 u2 u3 (fun w => holdless_any p ci bi y a7 c7 b am cm u1 u2 u3 w h2.1 h2.2 hh.1 hh.2)

theorem come_enters (x : Flt) (ci : Nat) (y : Cpy) (b : Brt) (u1 u2 u3 : Int) : ∀ r, r ∈ comeR x ci y b u1 u2 u3 → ∀ args w, (callFunc r.2.1 args).run Tryz.prog w = .ok (.enter r.2.1 args) w := by
 intro r hr'
 unfold comeR stayR at hr'
 simp only [List.mem_cons, List.not_mem_nil, or_false] at hr'
 rcases hr' with rfl | rfl | rfl | rfl | rfl | rfl | rfl | rfl
 ·exact enters_of Tryz.func62 (by kernel_rfl) rfl
 ·exact enters_of Tryz.func68 (by kernel_rfl) rfl
 ·exact enters_of Tryz.func69 (by kernel_rfl) rfl
 ·exact enters_of Tryz.func70 (by kernel_rfl) rfl
 ·exact enters_of Tryz.func71 (by kernel_rfl) rfl
 ·exact enters_of Tryz.func72 (by kernel_rfl) rfl
 ·exact enters_of Tryz.func73 (by kernel_rfl) rfl
 ·exact enters_of Tryz.func74 (by kernel_rfl) rfl

theorem stay_come {x : Flt} {ci : Nat} {y : Cpy} {b : Brt} {u1 u2 u3 : Int} {r : Int × Nat × Bool} (h : r ∈ stayR x ci y b u1 u2 u3) : r ∈ comeR x ci y b u1 u2 u3 := List.mem_cons_of_mem _ h

theorem rsnIn_stay {rb : Nat} {w : World} (x : Flt) (ci : Nat) (y : Cpy) (b : Brt) (u1 u2 u3 : Int) (h : w.rangeAt rb 0 stayV) : RsnIn rb (stayR x ci y b u1 u2 u3) w := by
 intro k r hk
 have hk8 : k < 7 := (List.getElem?_eq_some_iff.1 hk).1
 have hc : k = 0 ∨ k = 1 ∨ k = 2 ∨ k = 3 ∨ k = 4 ∨ k = 5 ∨ k = 6 := by omega
 rcases hc with rfl | rfl | rfl | rfl | rfl | rfl | rfl
 ·cases hk
  exact ⟨by simpa using h 0 _ rfl, by simpa using h 1 _ rfl⟩
 ·cases hk
  exact ⟨by simpa using h 2 _ rfl, by simpa using h 3 _ rfl⟩
 ·cases hk
  exact ⟨by simpa using h 4 _ rfl, by simpa using h 5 _ rfl⟩
 ·cases hk
  exact ⟨by simpa using h 6 _ rfl, by simpa using h 7 _ rfl⟩
 ·cases hk
  exact ⟨by simpa using h 8 _ rfl, by simpa using h 9 _ rfl⟩
 ·cases hk
  exact ⟨by simpa using h 10 _ rfl, by simpa using h 11 _ rfl⟩
 ·cases hk
  exact ⟨by simpa using h 12 _ rfl, by simpa using h 13 _ rfl⟩

end Go.Proofs.YtmclbfkcbadnpaaGreat

namespace Go.Proofs.YtmclbfkcbadnpaaGreat
open Go.RowKit

def wrongAt (x : Flt) (k : Nat) (c : Cpy) : Bool := match lastOf (brN x) c.at_ x.berths.length with
 | some bi => (match x.berths[bi]? with
  | some b => decide (¬ fitsI x k c b true = 0)
  | none => false)
 | none => false

def rightTo (x : Flt) : Nat → List ByteArray
 | 0 => []
 | k + 1 => rightTo x k ++ (match x.copies[k]? with
  | some c => if wrongAt x k c = true then [c.name] else []
  | none => [])

def rightL (x : Flt) : List ByteArray := if validI x = true then rightTo x x.copies.length else []

theorem rightTo_yes {x : Flt} {k : Nat} {c : Cpy} (hk : x.copies[k]? = some c) (h : wrongAt x k c = true) : rightTo x (k + 1) = rightTo x k ++ [c.name] := by
 simp only [rightTo, hk]
 rw [if_pos h]

theorem rightTo_no {x : Flt} {k : Nat} {c : Cpy} (hk : x.copies[k]? = some c) (h : wrongAt x k c = false) : rightTo x (k + 1) = rightTo x k := by
 simp only [rightTo, hk]
 rw [if_neg (by rw [h]; decide), List.append_nil]

theorem wrong_none {x : Flt} {k : Nat} {c : Cpy} (h : lastOf (brN x) c.at_ x.berths.length = none) : wrongAt x k c = false := by
 unfold wrongAt
 rw [h]

theorem wrong_some {x : Flt} {k bi : Nat} {c : Cpy} {b : Brt} (h : lastOf (brN x) c.at_ x.berths.length = some bi) (hb : x.berths[bi]? = some b) : wrongAt x k c = decide (¬ fitsI x k c b true = 0) := by
 unfold wrongAt
 rw [h]
 simp only [hb]

theorem rightTo_len {x : Flt} : ∀ k, (rightTo x k).length ≤ k
 | 0 => Nat.le_refl _
 | k + 1 => by
  have := rightTo_len (x := x) k
  simp only [rightTo, List.length_append]
  cases x.copies[k]? with
  | none => simp; omega
  | some c =>
   simp only
   split <;> simp <;> omega

theorem rightTo_mem {x : Flt} {s : ByteArray} : ∀ k, s ∈ rightTo x k → ∃ (i : Nat) (c : Cpy), x.copies[i]? = some c ∧ s = c.name
 | 0, h => by cases h
 | k + 1, h => by
  simp only [rightTo, List.mem_append] at h
  rcases h with h | h
  ·exact rightTo_mem k h
  ·cases hc : x.copies[k]? with
   | none => rw [hc] at h; cases h
   | some c =>
    rw [hc] at h
    simp only at h
    split at h
    ·exact ⟨k, c, hc, by simpa using h⟩
    ·cases h

theorem copy_name {x : Flt} (hv : validI x = true) {k : Nat} {c : Cpy} (h : x.copies[k]? = some c) : P.nameOk c.name = true := by
 unfold validI at hv
 simp only [Bool.and_eq_true, fewOk, ordOk, berthsOk, copiesOk, all_iff, decide_eq_true_eq] at hv
 obtain ⟨_, ⟨_, h1⟩, _⟩ := hv
 exact ((asc_iff _ _).1 h1 k c h).1

theorem name_20 {s : ByteArray} (h : P.nameOk s = true) : s.size ≤ 20 := by
 unfold P.nameOk at h
 simp only [Bool.and_eq_true, decide_eq_true_eq] at h
 omega

theorem sum_le {l : List ByteArray} {m : Nat} (h : ∀ s ∈ l, s.size ≤ m) : (l.map ByteArray.size).sum ≤ m * l.length := by
 induction l with
 | nil => simp
 | cons a r ih =>
  have h1 := h a (by simp)
  have h2 := ih (fun s hs => h s (by simp [hs]))
  simp only [List.map_cons, List.sum_cons, List.length_cons]
  have : m * (r.length + 1) = m * r.length + m := Nat.mul_succ _ _
  omega

theorem rightL_small (x : Flt) : wS ByteArray.size (rightL x) ≤ 1048576 ∧ (rightL x).length ≤ 60 ∧ ∀ s ∈ rightL x, s.size ≤ 20 := by
 unfold rightL
 split
 ·rename_i hv
  have h60 := (valid_parts hv).2.1
  have hl := rightTo_len (x := x) x.copies.length
  have hs : ∀ s ∈ rightTo x x.copies.length, s.size ≤ 20 := fun s hs => by
   obtain ⟨i, c, hc, rfl⟩ := rightTo_mem _ hs
   exact name_20 (copy_name hv hc)
  have := sum_le hs
  exact ⟨by unfold wS; omega, by omega, hs⟩
 ·exact ⟨by simp [wS], by simp, fun s hs => by cases hs⟩

end Go.Proofs.YtmclbfkcbadnpaaGreat
