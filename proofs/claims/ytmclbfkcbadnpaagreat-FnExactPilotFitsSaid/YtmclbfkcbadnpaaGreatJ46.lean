/-
 Several texts in one: Rtc, Rsa, Fdv, Imf.
-/
import Derived.Test.YtmclbfkcbadnpaaGreatJ45
import Derived.Test.YtmclbfkcbadnpaaGreatFrt
import Derived.Test.YtmclbfkcbadnpaaGreatJ37
namespace Go.Proofs.YtmclbfkcbadnpaaGreat
open Go.RowKit

/-- the reasons to stay, as cells -/
abbrev stayV : List Value := [.int .i64 2, .func (.func 68) #[] #[], .int .i64 3, .func (.func 69) #[] #[], .int .i64 4, .func (.func 70) #[] #[], .int .i64 5, .func (.func 71) #[] #[], .int .i64 6, .func (.func 72) #[] #[], .int .i64 7, .func (.func 73) #[] #[], .int .i64 8, .func (.func 74) #[] #[]]
/-- the reasons to come, as cells -/
abbrev comeV : List Value := [.int .i64 1, .func (.func 62) #[] #[], .int .i64 2, .func (.func 68) #[] #[], .int .i64 3, .func (.func 69) #[] #[], .int .i64 4, .func (.func 70) #[] #[], .int .i64 5, .func (.func 71) #[] #[], .int .i64 6, .func (.func 72) #[] #[], .int .i64 7, .func (.func 73) #[] #[], .int .i64 8, .func (.func 74) #[] #[]]

set_option maxHeartbeats 1000000 in
set_option maxRecDepth 100000 in
theorem stay_any (w : World) :
  Calls Tryz.prog 36 #[] w fun e w' => e = .returned (.slice (some ⟨w.heap.size, 0, none⟩) 7 7) ∧ w'.rangeAt w.heap.size 0 stayV ∧ w.heap.size < w'.heap.size ∧ Below w.heap.size w w' := by
 go_enter Tryz.func36, Tryz.ntmps36
 go_wp2_with fail
 go_ret
 refine ⟨rfl, ?_, ?_, ?_⟩
 ·exact range_cons (by simp) (range_cons (by simp) (range_cons (by simp) (range_cons (by simp) (range_cons (by simp) (range_cons (by simp) (range_cons (by simp) (range_cons (by simp) (range_cons (by simp) (range_cons (by simp) (range_cons (by simp) (range_cons (by simp) (range_cons (by simp) (range_cons (by simp) (range_nil _ _ _))))))))))))))
 ·simp
 ·go_grown

set_option maxHeartbeats 1000000 in
set_option maxRecDepth 100000 in
theorem come_any (w : World) :
  Calls Tryz.prog 31 #[] w fun e w' => ∃ g G, e = .returned (.slice (some ⟨g, 0, none⟩) 8 G) ∧ w'.rangeAt g 0 comeV ∧ w.heap.size ≤ g ∧ g < w'.heap.size ∧ Below w.heap.size w w' := by
 go_enter Tryz.func31, Tryz.ntmps31
 go_wp2_with fail
 refine (stay_any _).mono ?_
 rintro e w1 ⟨rfl, hr, hs, hb⟩
 have HR := Hid.intro hr
 have HB := Hid.intro hb
 clear hr hb
 go_wp2_with fail
 have hb2 : Below w1.heap.size w1 (w1.alloc (Obj.cells #[.int .i64 1, .func (.func 62) #[] #[]] 110)) := (Below.refl _ w1).alloc (Nat.le_refl _) _
 refine (insert_any w.heap.size w1.heap.size stayV [.int .i64 1, .func (.func 62) #[] #[]] _ rfl rfl ?_ ?_ ?_ ?_).mono ?_
 ·intro j v hj
  rw [hb2.cell (p := ⟨w.heap.size, j, none⟩) hs]
  have := HR.out j v hj
  rwa [Nat.zero_add] at this
 ·have hq : (w1.alloc (Obj.cells #[.int .i64 1, .func (.func 62) #[] #[]] 110)).rangeAt w1.heap.size 0 [.int .i64 1, .func (.func 62) #[] #[]] := range_cons (by simp) (range_cons (by simp) (range_nil _ _ _))
  intro j v hj
  have := hq j v hj
  rwa [Nat.zero_add] at this
 ·intro v hv
  simp at hv
  rcases hv with rfl | rfl | rfl | rfl | rfl | rfl | rfl | rfl | rfl | rfl | rfl | rfl | rfl | rfl <;> rfl
 ·intro v hv
  simp at hv
  rcases hv with rfl | rfl <;> rfl
 rintro e w3 ⟨G, rfl, hr3, hs3, hb3⟩
 have HB3 : Hid (Below w.heap.size w w3) := HB.out.trans ((hb2.trans (hb3.mono (by simp))).mono HB.out.size)
 have hq : (w1.alloc (Obj.cells #[.int .i64 1, .func (.func 62) #[] #[]] 110)).heap.size = w1.heap.size + 1 := by simp
 rw [hq] at hr3 hs3
 have HR3 : Hid (w3.rangeAt (w1.heap.size + 1) 0 comeV) := hr3
 have hsz : w.heap.size ≤ w1.heap.size + 1 := by have := HB.out.size; omega
 clear hr3 hb3 hb2
 go_wp2_with fail
 go_ret
 exact ⟨_, G, rfl, HR3.out, hsz, hs3, HB3.out⟩

end Go.Proofs.YtmclbfkcbadnpaaGreat

namespace Go.Proofs.YtmclbfkcbadnpaaGreat
open Go.RowKit Go.WideMaps Go.Maps

/-- the reasons to stay -/
def stayR (x : Flt) (ci : Nat) (y : Cpy) (b : Brt) (u1 u2 u3 : Int) : List (Int × Nat × Bool) := [(2, 68, elsI y b), (3, 69, !asksI y.select b.marks b.zone), (4, 70, togI x ci y b), (5, 71, farI x ci y b), (6, 72, decide (10 ≤ u1)), (7, 73, decide (b.room < u2 + y.room)), (8, 74, decide (b.hold < u3 + y.hold))]
/-- the reasons to come -/
def comeR (x : Flt) (ci : Nat) (y : Cpy) (b : Brt) (u1 u2 u3 : Int) : List (Int × Nat × Bool) := (1, 62, b.closed) :: stayR x ci y b u1 u2 u3

theorem stay_first {x : Flt} {ci : Nat} {y : Cpy} {b : Brt} {u1 u2 u3 : Int} (h1 : u1 = standTo x ci b.name x.copies.length) (h2 : u2 = roomTo x ci b.name x.copies.length) (h3 : u3 = holdTo x ci b.name x.copies.length) : firstR (stayR x ci y b u1 u2 u3) = fitsI x ci y b true := by
 unfold stayR fitsI
 simp only [firstR, decide_eq_true_eq, Bool.not_eq_true', Bool.not_true, Bool.and_false, Bool.false_eq_true, if_false]
 rw [h1, h2, h3]

theorem come_first {x : Flt} {ci : Nat} {y : Cpy} {b : Brt} {u1 u2 u3 : Int} (h1 : u1 = standTo x ci b.name x.copies.length) (h2 : u2 = roomTo x ci b.name x.copies.length) (h3 : u3 = holdTo x ci b.name x.copies.length) : firstR (comeR x ci y b u1 u2 u3) = fitsI x ci y b false := by
 unfold comeR stayR fitsI
 simp only [firstR, decide_eq_true_eq, Bool.not_eq_true', Bool.not_false, Bool.and_true]
 rw [h1, h2, h3]

theorem says_of {f : Nat} {t : Bool} (W : World) (_lo p m1 m2 m3 m4 ci bi : Nat) (x : Flt) (a1 : Option Addr) (c1 : Nat) (a2 : Option Addr) (c2 : Nat) (a3 : Option Addr) (c3 : Nat) (y : Cpy) (a7 : Option Addr) (c7 : Nat) (b : Brt) (am : Option Addr) (cm : Nat) (u1 u2 u3 : Int) (h : ∀ w, Calls Tryz.prog f #[.agg (spotA p ci bi y a7 c7 b am cm u1 u2 u3)] w fun e w' => e = .returned (.bool t) ∧ Below w.heap.size w w') : Says f t W p m1 m2 m3 m4 ci bi x a1 c1 a2 c2 a3 c3 y a7 c7 b am cm u1 u2 u3 :=
 fun _ w _ _ hF => (h w).mono (fun _ _ ⟨he, hb⟩ => ⟨he, (hF.memo.below hb hF.memo.lt).mono (Nat.le_succ _), But.of_below hb⟩)

theorem come_says (W : World) (lo p m1 m2 m3 m4 ci bi : Nat) (x : Flt) (a1 : Option Addr) (c1 : Nat) (a2 : Option Addr) (c2 : Nat) (a3 : Option Addr) (c3 : Nat) (y : Cpy) (a7 : Option Addr) (c7 : Nat) (b : Brt) (am : Option Addr) (cm : Nat) (u1 u2 u3 : Int) (hK : SpotK W lo p m4 ci bi x a1 a3 y a7 b am) (h1 : 0 ≤ u2 ∧ u2 ≤ 60000) (h2 : 0 ≤ u3 ∧ u3 ≤ 60000) : ∀ r, r ∈ comeR x ci y b u1 u2 u3 → Says r.2.1 r.2.2 W p m1 m2 m3 m4 ci bi x a1 c1 a2 c2 a3 c3 y a7 c7 b am cm u1 u2 u3 := by
 have hk := hK
 obtain ⟨_, _, _, n3, _, _, hv, hy, _⟩ := hk
 obtain ⟨_, _, _, _, _, hc⟩ := n3.at hy
 obtain ⟨a8, c8, q0, q1, q2, q3, q4, q5, q6, q7, q8, q9, q10, q11, z0, z1, z6, z9, z10, z11, z7⟩ := hc
 have hr := ((valid_more hv).2.2.2 ci y hy).1
 have hh := ((valid_apart hv).1 ci y hy).1
 intro r hr'
 unfold comeR stayR at hr'
 simp only [List.mem_cons, List.not_mem_nil, or_false] at hr'
 rcases hr' with rfl | rfl | rfl | rfl | rfl | rfl | rfl | rfl
 ·exact says_of W lo p m1 m2 m3 m4 ci bi x a1 c1 a2 c2 a3 c3 y a7 c7 b am cm u1 u2 u3 (closed_any p ci bi y a7 c7 b am cm u1 u2 u3)
 ·exact says_of W lo p m1 m2 m3 m4 ci bi x a1 c1 a2 c2 a3 c3 y a7 c7 b am cm u1 u2 u3 (elsewhere_any p ci bi y a7 c7 b am cm u1 u2 u3)
 ·exact marked_any W lo p m1 m2 m3 m4 ci bi x a1 c1 a2 c2 a3 c3 y a7 c7 b am cm u1 u2 u3 hK z6
 ·exact together_any W lo p m1 m2 m3 m4 ci bi x a1 c1 a2 c2 a3 c3 y a7 c7 b am cm u1 u2 u3 hK
 ·exact far_any W lo p m1 m2 m3 m4 ci bi x a1 c1 a2 c2 a3 c3 y a7 c7 b am cm u1 u2 u3 hK
 ·exact says_of W lo p m1 m2 m3 m4 ci bi x a1 c1 a2 c2 a3 c3 y a7 c7 b am cm u1 u2 u3 (full_any p ci bi y a7 c7 b am cm u1 u2 u3)
 ·exact says_of W lo p m1 m2 m3 m4 ci bi x a1 c1 a2 c2 a3 c3 y a7 c7 b am cm u1 u2 u3 (fun w => roomless_any p ci bi y a7 c7 b am cm u1 u2 u3 w h1.1 h1.2 hr.1 hr.2)
 ·exact says_of W lo p m1 m2 m3 m4 ci bi x a1 c1 a2 c2 a3 c3 y a7 c7 b am cm u1 u2 u3 (fun w => holdless_any p ci bi y a7 c7 b am cm u1 u2 u3 w h2.1 h2.2 hh.1 hh.2)

theorem come_enters (x : Flt) (ci : Nat) (y : Cpy) (b : Brt) (u1 u2 u3 : Int) : ∀ r, r ∈ comeR x ci y b u1 u2 u3 → ∀ args w, (callFunc r.2.1 args).run Tryz.prog w = .ok (.enter r.2.1 args) w := by
 intro r hr'
 unfold comeR stayR at hr'
 simp only [List.mem_cons, List.not_mem_nil, or_false] at hr'
 rcases hr' with rfl | rfl | rfl | rfl | rfl | rfl | rfl | rfl
 ·exact enters_of Tryz.func62 (by kernel_rfl) rfl
 ·exact enters_of Tryz.func68 (by kernel_rfl) rfl
 ·exact enters_of Tryz.func69 (by kernel_rfl) rfl
 ·exact enters_of Tryz.func70 (by kernel_rfl) rfl
 ·exact enters_of Tryz.func71 (by kernel_rfl) rfl
 ·exact enters_of Tryz.func72 (by kernel_rfl) rfl
 ·exact enters_of Tryz.func73 (by kernel_rfl) rfl
 ·exact enters_of Tryz.func74 (by kernel_rfl) rfl

theorem stay_come {x : Flt} {ci : Nat} {y : Cpy} {b : Brt} {u1 u2 u3 : Int} {r : Int × Nat × Bool} (h : r ∈ stayR x ci y b u1 u2 u3) : r ∈ comeR x ci y b u1 u2 u3 := List.mem_cons_of_mem _ h

theorem rsnIn_come {rb : Nat} {w : World} (x : Flt) (ci : Nat) (y : Cpy) (b : Brt) (u1 u2 u3 : Int) (h : w.rangeAt rb 0 comeV) : RsnIn rb (comeR x ci y b u1 u2 u3) w := by
 intro k r hk
 have hk8 : k < 8 := (List.getElem?_eq_some_iff.1 hk).1
 have hc : k = 0 ∨ k = 1 ∨ k = 2 ∨ k = 3 ∨ k = 4 ∨ k = 5 ∨ k = 6 ∨ k = 7 := by omega
 rcases hc with rfl | rfl | rfl | rfl | rfl | rfl | rfl | rfl
 ·cases hk
  exact ⟨by simpa using h 0 _ rfl, by simpa using h 1 _ rfl⟩
 ·cases hk
  exact ⟨by simpa using h 2 _ rfl, by simpa using h 3 _ rfl⟩
 ·cases hk
  exact ⟨by simpa using h 4 _ rfl, by simpa using h 5 _ rfl⟩
 ·cases hk
  exact ⟨by simpa using h 6 _ rfl, by simpa using h 7 _ rfl⟩
 ·cases hk
  exact ⟨by simpa using h 8 _ rfl, by simpa using h 9 _ rfl⟩
 ·cases hk
  exact ⟨by simpa using h 10 _ rfl, by simpa using h 11 _ rfl⟩
 ·cases hk
  exact ⟨by simpa using h 12 _ rfl, by simpa using h 13 _ rfl⟩
 ·cases hk
  exact ⟨by simpa using h 14 _ rfl, by simpa using h 15 _ rfl⟩

theorem rsnIn_stay {rb : Nat} {w : World} (x : Flt) (ci : Nat) (y : Cpy) (b : Brt) (u1 u2 u3 : Int) (h : w.rangeAt rb 0 stayV) : RsnIn rb (stayR x ci y b u1 u2 u3) w := by
 intro k r hk
 have hk8 : k < 7 := (List.getElem?_eq_some_iff.1 hk).1
 have hc : k = 0 ∨ k = 1 ∨ k = 2 ∨ k = 3 ∨ k = 4 ∨ k = 5 ∨ k = 6 := by omega
 rcases hc with rfl | rfl | rfl | rfl | rfl | rfl | rfl
 ·cases hk
  exact ⟨by simpa using h 0 _ rfl, by simpa using h 1 _ rfl⟩
 ·cases hk
  exact ⟨by simpa using h 2 _ rfl, by simpa using h 3 _ rfl⟩
 ·cases hk
  exact ⟨by simpa using h 4 _ rfl, by simpa using h 5 _ rfl⟩
 ·cases hk
  exact ⟨by simpa using h 6 _ rfl, by simpa using h 7 _ rfl⟩
 ·cases hk
  exact ⟨by simpa using h 8 _ rfl, by simpa using h 9 _ rfl⟩
 ·cases hk
  exact ⟨by simpa using h 10 _ rfl, by simpa using h 11 _ rfl⟩
 ·cases hk
  exact ⟨by simpa using h 12 _ rfl, by simpa using h 13 _ rfl⟩

end Go.Proofs.YtmclbfkcbadnpaaGreat

namespace Go.Proofs.YtmclbfkcbadnpaaGreat
open Go.RowKit

/-- the answer of PilotFits -/
def fitsR (x : Flt) (cn bn : ByteArray) : Int := match spotQ x cn bn with
 | some (ci, bi) => (match x.copies[ci]?, x.berths[bi]? with
  | some y, some b => fitsI x ci y b false
  | _, _ => 9)
 | none => 9

theorem fits_none {x : Flt} {cn bn : ByteArray} (h : spotQ x cn bn = none) : fitsR x cn bn = 9 := by
 unfold fitsR
 rw [h]

theorem fits_some {x : Flt} {cn bn : ByteArray} {ci bi : Nat} {y : Cpy} {b : Brt} (h : spotQ x cn bn = some (ci, bi)) (h3 : x.copies[ci]? = some y) (h4 : x.berths[bi]? = some b) : fitsR x cn bn = fitsI x ci y b false := by
 unfold fitsR
 rw [h]
 simp only [h3, h4]

end Go.Proofs.YtmclbfkcbadnpaaGreat

namespace Go.Proofs.YtmclbfkcbadnpaaGreat
open Go.RowKit Go.WideMaps Go.Maps

set_option maxHeartbeats 4000000 in
set_option maxRecDepth 100000 in
theorem implFits_any (x : Flt) (a1 : Option Addr) (c1 : Nat) (a2 : Option Addr) (c2 : Nat) (a3 : Option Addr) (c3 : Nat) (lo : Nat) (cn bn : ByteArray) (w : World) (n1 : SliceC BrtC 6 lo w a1 x.berths) (n2 : SliceC SvcC 2 lo w a2 x.services) (n3 : SliceC CpyC 12 lo w a3 x.copies)
  (l1 : x.berths.length ≤ 1048576) (l2 : x.services.length ≤ 1048576) (l3 : x.copies.length ≤ 1048576) (hcn : cn.size ≤ maxLen) (hbn : bn.size ≤ maxLen) :
  Calls Tryz.prog 9 #[.agg #[.bool x.pack, .slice a1 x.berths.length c1, .slice a2 x.services.length c2, .slice a3 x.copies.length c3], .string cn, .string bn] w fun e w' => e = .returned (.int .i64 (fitsR x cn bn)) ∧ Below w.heap.size w w' := by
 have N1 := Hid.intro n1
 have N2 := Hid.intro n2
 have N3 := Hid.intro n3
 clear n1 n2 n3
 go_enter Tryz.func9, Tryz.ntmps9
 go_wp2_with fail
 have e3 : Below w.heap.size w (w.alloc (Obj.cells #[.bool x.pack, .slice a1 x.berths.length c1, .slice a2 x.services.length c2, .slice a3 x.copies.length c3] 33)) := (Below.refl _ w).alloc (Nat.le_refl _) _
 have HB0 := Hid.intro e3
 clear e3
 generalize (w.alloc (Obj.cells #[.bool x.pack, .slice a1 x.berths.length c1, .slice a2 x.services.length c2, .slice a3 x.copies.length c3] 33)) = w0 at *
 have M1 := Hid.intro (N1.out.below BrtC.holds HB0.out (Nat.le_refl _))
 have M3 := Hid.intro (N3.out.below CpyC.holds HB0.out (Nat.le_refl _))
 refine (spotIn_any x a1 c1 a2 c2 a3 c3 lo cn bn w0 M1.out (N2.out.below SvcC.holds HB0.out (Nat.le_refl _)) M3.out l1 l2 l3 hcn hbn).mono ?_
 rintro e w1 ⟨hres, hb1⟩
 have HB1 : Hid (Below w0.heap.size w0 w1) := hb1
 have HW1 : Hid (Below w.heap.size w w1) := HB0.out.trans (hb1.mono HB0.out.size)
 clear hb1
 rcases hres with ⟨rfl, hsc⟩ | ⟨p, m1, m2, m3, m4, ci, bi, y, b, a7, c7, am, cm, rfl, hv, hy, hb, hsc, hF, hp, hm4, s7, sm⟩
 ·have HSC := Hid.intro (fits_none hsc)
  clear hsc
  have hza : Blk w1.heap.size zeroSpot 63 (w1.alloc (Obj.cells zeroSpot 63)) := Blk.alloc _ _ _
  have HTS : Hid ((w1.alloc (Obj.cells zeroSpot 63)).there w1.heap.size 0 24) := hza.there
  obtain ⟨w2, HW2⟩ : ∃ w2, Hid (w2 = (w1.alloc (Obj.cells zeroSpot 63)).setCells w1.heap.size 0 zeroSpot.toList) := ⟨_, rfl⟩
  have HX2 : Hid (Blk w1.heap.size zeroSpot 63 w2) := by
   show Blk _ _ _ _
   rw [HW2.out]
   exact hza.setAll zeroSpot rfl
  have hbs : Below w1.heap.size w1 w2 := by
   rw [HW2.out]
   exact below_setCells (Nat.le_refl _) _ _ _ ((Below.refl _ w1).alloc (Nat.le_refl _) _)
  clear hza
  have HBW : Hid (Below w.heap.size w w2) := HW1.out.trans (hbs.mono HW1.out.size)
  clear hbs
  go_wp2_with (first | (refine wpList_store_to rfl 63 _ _ rfl w1.heap.size 0 zeroSpot rfl rfl HTS.out isz_Spot (by simp [Value.oneCell']) w2 HW2.out ?_))
  go_ret
  exact ⟨ret_int HSC.out.symm, HBW.out⟩
 ·obtain ⟨u1, hu1⟩ : ∃ u : Int, u = (useTo x.copies b.name ci x.copies.length).1 := ⟨_, rfl⟩
  obtain ⟨u2, hu2⟩ : ∃ u : Int, u = (useTo x.copies b.name ci x.copies.length).2.1 := ⟨_, rfl⟩
  obtain ⟨u3, hu3⟩ : ∃ u : Int, u = (useTo x.copies b.name ci x.copies.length).2.2 := ⟨_, rfl⟩
  rw [← hu1, ← hu2, ← hu3]
  have h60 := (valid_parts hv).2.1
  have HU1 : Hid (u1 = standTo x ci b.name x.copies.length) := hu1.trans (use_stand ci b.name _ h60)
  have HU2 : Hid (u2 = roomTo x ci b.name x.copies.length) := hu2.trans (use_room ci b.name (fun k c h => ((valid_more hv).2.2.2 k c h).1) _ h60)
  have HU3 : Hid (u3 = holdTo x ci b.name x.copies.length) := hu3.trans (use_hold ci b.name (fun k c h => ((valid_apart hv).1 k c h).1) _ h60)
  have HR2 : Hid (0 ≤ u2 ∧ u2 ≤ 60000) := by
   have := roomTo_bd ci b.name (fun k c h => ((valid_more hv).2.2.2 k c h).1) x.copies.length
   show _ ∧ _
   rw [HU2.out]
   omega
  have HR3 : Hid (0 ≤ u3 ∧ u3 ≤ 60000) := by
   have := holdTo_bd ci b.name (fun k c h => ((valid_apart hv).1 k c h).1) x.copies.length
   show _ ∧ _
   rw [HU3.out]
   omega
  have HSC : Hid (fitsR x cn bn = firstR (comeR x ci y b u1 u2 u3)) := (fits_some hsc hy hb).trans (come_first HU1.out HU2.out HU3.out).symm
  have HK : Hid (SpotK w0 lo p m4 ci bi x a1 a3 y a7 b am) := ⟨hp, hm4, M1.out, M3.out, s7, sm, hv, hy, hb⟩
  have HF := Hid.intro hF
  have hm4' : w0.heap.size ≤ m4 := hm4
  clear hu1 hu2 hu3 hsc hF hv hy hb hp hm4 s7 sm h60 HU1 HU2 HU3
  have hza : Blk w1.heap.size zeroSpot 63 (w1.alloc (Obj.cells zeroSpot 63)) := Blk.alloc _ _ _
  have HTS : Hid ((w1.alloc (Obj.cells zeroSpot 63)).there w1.heap.size 0 24) := hza.there
  obtain ⟨w2, HW2⟩ : ∃ w2, Hid (w2 = (w1.alloc (Obj.cells zeroSpot 63)).setCells w1.heap.size 0 (spotA p ci bi y a7 c7 b am cm u1 u2 u3).toList) := ⟨_, rfl⟩
  have HX2 : Hid (Blk w1.heap.size (spotA p ci bi y a7 c7 b am cm u1 u2 u3) 63 w2) := by
   show Blk _ _ _ _
   rw [HW2.out]
   exact hza.setAll (spotA p ci bi y a7 c7 b am cm u1 u2 u3) rfl
  have hbs : Below w1.heap.size w1 w2 := by
   rw [HW2.out]
   exact below_setCells (Nat.le_refl _) _ _ _ ((Below.refl _ w1).alloc (Nat.le_refl _) _)
  clear hza
  have HF2 := Hid.intro (HF.out.below hbs)
  have HB2 : Hid (Below w0.heap.size w0 w2) := HB1.out.trans (hbs.mono HB1.out.size)
  have hlt2 : w1.heap.size < w2.heap.size := HX2.out.lt
  clear hbs
  go_upto_region 4 with (first | (refine wpList_store_to rfl 63 _ _ rfl w1.heap.size 0 (spotA p ci bi y a7 c7 b am cm u1 u2 u3) rfl rfl HTS.out isz_Spot (by simp [Value.oneCell']) w2 HW2.out ?_))
  refine wp_region_held_drew (S := fun wy => wy.rangeAt w1.heap.size 0 (spotA p ci bi y a7 c7 b am cm u1 u2 u3).toList) (by kernel_rfl) (range_drew HX2.out.rangeA) (fun hS => ?_)
  refine wpAnyH_take (i := 1) (oi := { dst := some 19, op := _, type := _, pos := _, after := _, guard := none }) (v := .agg (spotA p ci bi y a7 c7 b am cm u1 u2 u3)) rfl (by kernel_rfl) (by kernel_rfl) (by kernel_rfl) (fun _ _ _ h => h) (yieldsIf_load_mid rfl 63 (.tmp 7) rfl w1.heap.size 0 rfl (spotA p ci bi y a7 c7 b am cm u1 u2 u3).toList _ (fun _ h => h) Tryz.underlying63 rfl isz_Spot) hS ?_
  simp only [Act.put, List.setIfInBounds_toArray, List.set_cons_zero, List.set_cons_succ]
  refine wpAnyH_ready (rs := [0]) (by kernel_rfl) (by simp) (AllReadyH.cons (o := { dst := some 18, op := _, type := _, pos := _, after := _, guard := none }) rfl (fun K hK => ?_) AllReadyH.nil)
  go_simp
  refine (come_any _).mono ?_
  rintro e w3 ⟨g, G, rfl, hr3, hg1, hg2, hb3⟩
  have hd3 : Below w2.heap.size w2 w3 := (Below.refl _ w2).drew.trans hb3
  have HB3 : Hid (Below w0.heap.size w0 w3) := HB2.out.trans (hd3.mono HB2.out.size)
  have HF3 := Hid.intro (HF2.out.below hd3)
  have HR := Hid.intro (rsnIn_come x ci y b u1 u2 u3 hr3)
  have hgm : g ≠ m4 := by
   have h1 : m4 < w2.heap.size := (FoundM.of HF2.out).memo.lt
   have h2 : w2.heap.size ≤ g := hg1
   omega
  refine hK.out _ _ (range_belowV hS hb3 hlt2) (fun hS => ?_)
  clear hK K hd3 hb3 hr3
  refine wpAnyH_ready (rs := [2]) (by kernel_rfl) (by simp) (AllReadyH.cons (o := { dst := some 20, op := _, type := _, pos := _, after := _, guard := none }) rfl (fun K hK => ?_) AllReadyH.nil)
  go_simp
  refine (firstOf_any w0 lo p m1 m2 m3 m4 ci bi x a1 c1 a2 c2 a3 c3 y a7 c7 b am cm u1 u2 u3 (comeR x ci y b u1 u2 u3) g G 0 w3 HK.out (Nat.le_refl 8) (by omega) (fun k r h => come_says w0 lo p m1 m2 m3 m4 ci bi x a1 c1 a2 c2 a3 c3 y a7 c7 b am cm u1 u2 u3 HK.out HR2.out HR3.out r (List.mem_of_getElem? h)) (fun k r h => come_enters x ci y b u1 u2 u3 r (List.mem_of_getElem? h)) HB3.out (FoundM.of HF3.out) HR.out hg2 hgm).mono ?_
  rintro e w4 ⟨rfl, _, hb4⟩
  have HW4 : Hid (Below w.heap.size w w4) := HB0.out.trans ((HB3.out.trans (hb4.below HB3.out.size hm4')).mono HB0.out.size)
  rw [← HSC.out]
  refine hK.out _ _ (fun j v hj => (hb4.cell (a := ⟨w1.heap.size, 0 + j, none⟩) (by show w1.heap.size < w3.heap.size; have := hg1; have : w2.heap.size ≤ g := this; omega) (by show w1.heap.size ≠ m4; have h1 : m4 < w1.heap.size := (FoundM.of HF.out).memo.lt; omega)).trans (hS j v hj)) (fun hS => ?_)
  clear hK K hb4
  refine wpAnyH_take (i := 3) (oi := { dst := some 6, op := _, type := _, pos := _, after := _, guard := none }) (v := .int .i64 (fitsR x cn bn)) rfl (by kernel_rfl) (by kernel_rfl) (by kernel_rfl) (fun _ _ _ h => h) (Or.inl ⟨by rfl, ?_⟩) hS ?_
  ·intro wy hy
   clear hy
   go_simp
  simp only [Act.put, List.setIfInBounds_toArray, List.set_cons_zero, List.set_cons_succ]
  refine wpAnyH_done (by kernel_rfl) ?_ _
  clear hS
  go_wp2_with fail
  go_ret
  exact ⟨rfl, HW4.out⟩

end Go.Proofs.YtmclbfkcbadnpaaGreat
