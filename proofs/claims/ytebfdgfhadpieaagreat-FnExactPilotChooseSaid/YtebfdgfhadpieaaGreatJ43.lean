import Derived.Test.YtebfdgfhadpieaaGreatJ42
import Derived.Test.YtebfdgfhadpieaaGreatJ40
namespace Go.Proofs.YtebfdgfhadpieaaGreat
open Go.RowKit Go.WideMaps Go.Maps
attribute [local go_sem] Oper.semAt_some
theorem any_snoc {α : Type} {f : α → Bool} {pre : List α} {s : α} (h : pre.any f = false) (hs : f s = false) : (pre ++ [s]).any f = false := by simp only [List.any_append, h, List.any_cons, hs, List.any_nil, Bool.or_false]
theorem any_last {α : Type} {f : α → Bool} {pre : List α} {s : α} (hs : f s = true) : (pre ++ [s]).any f = true := by simp only [List.any_append, List.any_cons, hs, List.any_nil, Bool.or_false, Bool.or_true]
theorem results_cell_bool {fn : Func} {p : Tmp} (h : fn.results = #[.cell p 4]) (tmps : Array Value) (w : World) (g : Nat) (q : Bool) (hp : tmps.getD p undef = .pointer (some ⟨g, 0, none⟩)) (hc : w.cell? ⟨g, 0, none⟩ = some (.bool q)) :
  (results fn tmps).run Tryz.prog w = .ok (.bool q) w := by
 have hp' : tmps[p]?.getD undef = .pointer (some ⟨g, 0, none⟩) := by simpa using hp
 have hl : (loadVar 4 ⟨g, 0, none⟩).run Tryz.prog w = .ok (.bool q) w := by simp [go_sem, hc]
 simp [results, h, hp', asAddr, hl]
def mxI (a c : Int) : Int := if a < c then c else a
def nearS (y : Cpy) (b : Brt) (s : StX) : Bool := (decide (mxI y.apart s.c.apart ≠ 0) && decide (s.b.name = b.name)) || (decide (mxI y.apart s.c.apart = 2) && decide (s.b.zone = b.zone))
def SeenN (y : Cpy) (b : Brt) (xs : List StX) (q : Bool) : Prop := xs.any (nearS y b) = q
theorem nearS_yes1 {y : Cpy} {b : Brt} {s : StX} (h1 : mxI y.apart s.c.apart ≠ 0) (h2 : s.b.name = b.name) : nearS y b s = true := by
 unfold nearS
 rw [decide_eq_true h1, decide_eq_true h2]
 rfl
theorem nearS_yes2 {y : Cpy} {b : Brt} {s : StX} (h1 : mxI y.apart s.c.apart = 2) (h2 : s.b.zone = b.zone) : nearS y b s = true := by
 unfold nearS
 rw [decide_eq_true h1, decide_eq_true h2]
 simp
theorem nearS_no {y : Cpy} {b : Brt} {s : StX} (h1 : ¬ (mxI y.apart s.c.apart ≠ 0 ∧ s.b.name = b.name)) (h2 : ¬ (mxI y.apart s.c.apart = 2 ∧ s.b.zone = b.zone)) : nearS y b s = false := by
 unfold nearS
 rw [Bool.or_eq_false_iff, Bool.and_eq_false_iff, Bool.and_eq_false_iff]
 constructor
 ·by_cases h : mxI y.apart s.c.apart ≠ 0
  ·exact Or.inr (decide_eq_false (fun e => h1 ⟨h, e⟩))
  ·exact Or.inl (decide_eq_false h)
 ·by_cases h : mxI y.apart s.c.apart = 2
  ·exact Or.inr (decide_eq_false (fun e => h2 ⟨h, e⟩))
  ·exact Or.inl (decide_eq_false h)
theorem nearS_eq {y : Cpy} {b : Brt} {s : StX} {zo : ByteArray} (h1 : 0 ≤ y.apart ∧ y.apart ≤ 2) (h2 : 0 ≤ s.c.apart ∧ s.c.apart ≤ 2) (hn : s.b.name = s.c.at_) (hz : zo = s.b.zone) : nearS y b s = nearB s.c.apart y.apart (decide (s.c.at_ = b.name)) (decide (zo = b.zone)) := by
 unfold nearS nearB
 rw [hn, hz]
 have e1 : decide (mxI y.apart s.c.apart ≠ 0) = (decide (s.c.apart ≠ 0) || decide (y.apart ≠ 0)) := by
  rw [Bool.eq_iff_iff]
  simp only [decide_eq_true_eq, Bool.or_eq_true]
  unfold mxI
  split <;> omega
 have e2 : decide (mxI y.apart s.c.apart = 2) = (decide (s.c.apart = 2) || decide (y.apart = 2)) := by
  rw [Bool.eq_iff_iff]
  simp only [decide_eq_true_eq, Bool.or_eq_true]
  unfold mxI
  split <;> omega
 rw [e1, e2, Bool.and_comm, Bool.and_comm (_ || _) (decide (s.b.zone = b.zone))]
theorem came_tog {x : Flt} (hv : validI x = true) (ci : Nat) (y : Cpy) (b : Brt) (hya : 0 ≤ y.apart ∧ y.apart ≤ 2) : ∀ n xs, Came x ci y.service n xs → anyTo (togF x ci y b) n = xs.any (nearS y b)
 | 0, xs, h => by
  have : xs = [] := h
  subst this
  rfl
 | n + 1, xs, h => by
  obtain ⟨_, hbN, hbr, hcp⟩ := valid_more hv
  cases hc : x.copies[n]? with
  | none =>
   simp only [Came, hc] at h
   rw [anyTo_no (by unfold togF; rw [hc])]
   exact came_tog hv ci y b hya n xs h
  | some c =>
   simp only [Came, hc] at h
   by_cases hcd : n ≠ ci ∧ c.service = y.service
   ·rw [if_pos hcd] at h
    cases hj : lastOf (brN x) c.at_ x.berths.length with
    | none =>
     rw [hj] at h
     have hat : c.at_ = ⟨#[]⟩ := by
      rcases (hcp n c hc).2.2 with e | ⟨s, e⟩
      ·exact e
      ·rw [hj] at e; cases e
     rw [anyTo_no (tog_no hc (fun k => k.2.2.1 hat))]
     exact came_tog hv ci y b hya n xs h
    | some j =>
     rw [hj] at h
     obtain ⟨pre, s, rfl, hsc, hsb, hpre⟩ := h
     have ih := came_tog hv ci y b hya n pre hpre
     obtain ⟨b', hb', hbn, hbz⟩ := zone_at hbN hj
     rw [hsb] at hb'
     cases hb'
     have hat : ¬ c.at_ = ⟨#[]⟩ := by
      intro e
      rw [e, nowhere hbr] at hj
      cases hj
     have hne := nearS_eq (y := y) (b := b) (s := s) (zo := zoneOf x.berths c.at_) hya (by rw [hsc]; exact ((valid_apart hv).1 n c hc).2) (by rw [hsc]; exact hbn) hbz
     rw [hsc] at hne
     rw [List.any_append, ← ih]
     cases hq : nearS y b s with
     | true =>
      rw [hq] at hne
      rw [anyTo_yes (tog_yes hc hcd.1 hcd.2 hat hne.symm)]
      simp [hq]
     | false =>
      rw [hq] at hne
      rw [anyTo_no (tog_no hc (fun k => by rw [← hne] at k; cases k.2.2.2))]
      simp [hq]
   ·rw [if_neg hcd] at h
    rw [anyTo_no (tog_no hc (fun k => hcd ⟨k.1, k.2.1⟩))]
    exact came_tog hv ci y b hya n xs h
set_option maxHeartbeats 4000000 in
set_option maxRecDepth 100000 in
theorem together_any (W : World) (lo p m1 m2 m3 m4 ci bi : Nat) (x : Flt) (a1 : Option Addr) (c1 : Nat) (a2 : Option Addr) (c2 : Nat) (a3 : Option Addr) (c3 : Nat) (y : Cpy) (a7 : Option Addr) (c7 : Nat) (b : Brt) (am : Option Addr) (cm : Nat) (u1 u2 u3 : Int) (hK : SpotK W lo p m4 ci bi x a1 a3 y a7 b am) :
  Says 122 (togI x ci y b) W p m1 m2 m3 m4 ci bi x a1 c1 a2 c2 a3 c3 y a7 c7 b am cm u1 u2 u3 := by
 intro n w hn hW hF
 obtain ⟨hp, hm4, n1, n3, n7, nm, hv, hy, hb⟩ := hK
 obtain ⟨_, l3, _, _, _, _⟩ := valid_parts hv
 obtain ⟨_, _, hbr, hcp⟩ := valid_more hv
 obtain ⟨hbn, hbz, _, _⟩ := hbr bi b hb
 have HBN := iH (name_ne hbn)
 have HAP := iH (valid_apart hv).1
 have HW := iH hW
 have HF := iH hF
 have N1 := iH n1
 have N3 := iH n3
 have HV := iH hv
 have HY := iH hy
 have HB := iH hb
 have hpl : p < w.heap.size := hF.2.1
 have hm1w : m1 < w.heap.size := hF.2.2.1.lt
 have hm4w : m4 < w.heap.size := hF.memo.lt
 have hwW : W.heap.size ≤ w.heap.size := hW.size
 clear hbn hbz hbr hcp hW hF n1 n3 n7 nm hv hy hb
 refine (callsIn_wide (n := 7)).1 ?_
 refine callsIn_of_wp_marks Tryz.func122 rfl trivial ?_ rfl
 refine wpIn_wide.2 ?_
 simp only [Tryz.ntmps122, List.size_toArray, List.length_cons, List.length_nil, Nat.reduceAdd, Nat.reduceSub, Array.replicate_succ, Array.replicate_zero, List.push_toArray, List.append_toArray, List.nil_append, List.cons_append]
 go_upto_region 1 with fail
 have e0 : Blk w.heap.size (spotA p ci bi y a7 c7 b am cm u1 u2 u3) 131 ((w.alloc (Obj.cells (spotA p ci bi y a7 c7 b am cm u1 u2 u3) 131)).alloc (Obj.cells #[.bool false] 4)) := (Blk.alloc w (spotA p ci bi y a7 c7 b am cm u1 u2 u3) 131).below ((Below.refl _ _).alloc nL _) (Blk.alloc w (spotA p ci bi y a7 c7 b am cm u1 u2 u3) 131).lt
 have e1 : Blk (w.heap.size + 1) #[.bool false] 4 ((w.alloc (Obj.cells (spotA p ci bi y a7 c7 b am cm u1 u2 u3) 131)).alloc (Obj.cells #[.bool false] 4)) := by
  have h := Blk.alloc (w.alloc (Obj.cells (spotA p ci bi y a7 c7 b am cm u1 u2 u3) 131)) #[.bool false] 4
  simpa using h
 have e2 : Below w.heap.size w ((w.alloc (Obj.cells (spotA p ci bi y a7 c7 b am cm u1 u2 u3) 131)).alloc (Obj.cells #[.bool false] 4)) := ((Below.refl _ w).alloc nL _).alloc (by simp) _
 have HS1 := iH e0
 have HZ1 := iH e1
 have HB1 := iH e2
 clear e0 e1 e2
 generalize ((w.alloc (Obj.cells (spotA p ci bi y a7 c7 b am cm u1 u2 u3) 131)).alloc (Obj.cells #[.bool false] 4)) = w1 at *
 have HF1 := iH (HF.out.below HB1.out)
 have hsz1 : w.heap.size + 1 < w1.heap.size := HZ1.out.lt
 have s3 : w1.cell? ⟨w.heap.size, 3, none⟩ = some (.string y.service) := HS1.out.cell rfl
 go_wp2_with (first | (refine wpList_load_mid rfl 131 _ rfl w.heap.size 0 (by first | rfl | (simp [go_sem]; done)) (spotA p ci bi y a7 c7 b am cm u1 u2 u3).toList _ HS1.out.rangeA Tryz.underlying131 rfl isz_Spot ?_))
 refine (standing_any (spotA p ci bi y a7 c7 b am cm u1 u2 u3) y.service _).mono ?_
 rintro e w6 ⟨rfl, hw6⟩
 have hb6 : Below w1.heap.size w1 w6 := by rw [hw6]; exact ((Below.refl _ w1).alloc nL _).alloc (by simp) _
 have HX6 : Hid (Blk w1.heap.size (spotA p ci bi y a7 c7 b am cm u1 u2 u3) 131 w6) := by
  rw [hw6]
  exact (Blk.alloc w1 _ _).below ((Below.refl _ _).alloc nL _) (Blk.alloc w1 _ _).lt
 have HV6 : Hid (Blk (w1.heap.size + 1) #[.string y.service] 9 w6) := by
  rw [hw6]
  have h := Blk.alloc (w1.alloc (Obj.cells (spotA p ci bi y a7 c7 b am cm u1 u2 u3) 131)) #[.string y.service] 9
  show Blk _ _ _ _
  simpa using h
 have hF6 := HF1.out.below hb6
 have HIT : Hid (ItIn p m1 w1.heap.size (w1.heap.size + 1) ci x a1 c1 a3 c3 y.service w6) := ⟨HX6.out.cell rfl, HX6.out.cell rfl, HV6.out.cell rfl, hF6.1 1 _ rfl, hF6.1 3 _ rfl, hF6.1 4 _ rfl, hF6.2.2.1⟩
 have HS6 : Hid (Blk w.heap.size (spotA p ci bi y a7 c7 b am cm u1 u2 u3) 131 w6) := HS1.out.below hb6 HS1.out.lt
 have HZ6 : Hid (Blk (w.heap.size + 1) #[.bool false] 4 w6) := HZ1.out.below hb6 HZ1.out.lt
 have HQ6 : Hid (Below w.heap.size w w6) := HB1.out.trans (hb6.mono HB1.out.size)
 have HW6 : Hid (Below W.heap.size W w6) := HW.out.trans (HQ6.out.mono HW.out.size)
 have hs6 : w1.heap.size + 1 < w6.heap.size := HV6.out.lt
 clear hw6 hb6 hF6 HX6 HV6 s3 HS1 HZ1 HF1
 go_wp2_with fail
 refine wpIn_wide.1 (wpIn_rangeFunc_ownH (F := Fence.wide) (n := 6) rfl (by omega) (gf := 128) (lb := #[.pointer (some ⟨w1.heap.size, 0, none⟩), .pointer (some ⟨w1.heap.size + 1, 0, none⟩)]) rfl trivial (enters_of Tryz.func128 (by kernel_rfl) rfl)
  (standing_stops p m1 w1.heap.size (w1.heap.size + 1) ci (w.heap.size + 1) w6.heap.size x a1 c1 a3 c3 y.service lo W w6 HW6.out N1.out N3.out HIT.out l3 HW6.out.size (by omega) nL ⟨by omega, by omega⟩ ⟨by omega, by omega⟩ ⟨by omega, by omega⟩ ⟨by omega, by omega⟩)
  (fun h1 h2 => h1.trans h2) (fun W' l' o o' hl _ _ _ => ⟨rfl, rfl, rfl, (grownBy_putObj' W' l' o').size, fun k hk _ => World.putObj_heap_other (by omega)⟩) (Below.refl _ _) (fun _ => rfl)
  (fun pre W' => Blk w.heap.size (spotA p ci bi y a7 c7 b am cm u1 u2 u3) 131 W' ∧ Blk (w.heap.size + 1) #[.bool false] 4 W' ∧ Below w.heap.size w W' ∧ w6.heap.size ≤ W'.heap.size ∧ SeenN y b pre false)
  (fun c pre W' => c = Code.ret ∧ Blk (w.heap.size + 1) #[.bool true] 4 W' ∧ Below w.heap.size w W' ∧ w6.heap.size ≤ W'.heap.size ∧ SeenN y b pre true) ?_ ?_ ?_
  (fun s a' W' => ∃ Cx Bx, w6.heap.size ≤ Cx ∧ w6.heap.size ≤ Bx ∧ Blk Cx #[.string s.c.name, .string s.c.service, .int .i64 s.c.rank, .int .i64 s.c.born, .int .i64 s.c.room, .int .i64 s.c.hold, .string s.c.select, .slice s.a8 s.c.likes.length s.c8, .int .i64 s.c.apart, .string s.c.near, .string s.c.fixed, .string s.c.at_] 45 W' ∧ Blk Bx #[.string s.b.name, .string s.b.zone, .slice s.am s.b.marks.length s.cm, .int .i64 s.b.room, .int .i64 s.b.hold, .bool s.b.closed] 61 W' ∧ a' = { tmps := #[.agg (spotA p ci bi y a7 c7 b am cm u1 u2 u3), .pointer (some ⟨w.heap.size, 0, none⟩), .pointer (some ⟨w.heap.size + 1, 0, none⟩), .pointer (some ⟨Cx, 0, none⟩), .pointer (some ⟨Bx, 0, none⟩), undef, .agg (spotA p ci bi y a7 c7 b am cm u1 u2 u3), .pointer (some ⟨w.heap.size, 2, none⟩), .pointer (some ⟨w.heap.size, 3, none⟩), .string y.service, .func (.func 128) #[] #[.pointer (some ⟨w1.heap.size, 0, none⟩), .pointer (some ⟨w1.heap.size + 1, 0, none⟩)], (stEnc s)[0], (stEnc s)[1], undef, undef, undef, undef, undef, undef, undef, undef, undef, undef, undef, undef, undef, undef, undef, undef, undef, undef, undef, undef, undef, undef, undef, undef, undef, undef], defers := [] }) ?_ ?_ ?_ ?_ ?_)
 ·rintro s A B row ⟨h1, h2, h3, h4, h5⟩ hgr hr
  have hne : ∀ k, k < w6.heap.size → some k ≠ row := fun k hk e => by have := (hr _ e.symm).1; omega
  exact ⟨h1.grown hgr (hne _ (by omega)), h2.grown hgr (hne _ (by omega)), h3.grown hgr h3.size (fun k e => Nat.le_trans HQ6.out.size (hr k e).1), Nat.le_trans h4 hgr.size, h5⟩
 ·rintro c s A B row ⟨h0, h2, h3, h4, h5⟩ hgr hr
  have hne : ∀ k, k < w6.heap.size → some k ≠ row := fun k hk e => by have := (hr _ e.symm).1; omega
  exact ⟨h0, h2.grown hgr (hne _ (by omega)), h3.grown hgr h3.size (fun k e => Nat.le_trans HQ6.out.size (hr k e).1), Nat.le_trans h4 hgr.size, h5⟩
 ·exact ⟨HS6.out, HZ6.out, HQ6.out, Nat.le_refl _, rfl⟩
 ·rintro s a' _ A B row ⟨Cx, Bx, h1, h2, h3, h4, h5⟩ hgr hr
  refine ⟨Cx, Bx, h1, h2, h3.grown hgr (fun e => ?_), h4.grown hgr (fun e => ?_), h5⟩
  ·obtain ⟨_, o, ho, hc⟩ := hr _ e.symm
   rw [show A.heap[Cx]? = _ from h3] at ho
   cases ho
   cases hc
  ·obtain ⟨_, o, ho, hc⟩ := hr _ e.symm
   rw [show A.heap[Bx]? = _ from h4] at ho
   cases ho
   cases hc
 ·rintro l' pre s W' K ⟨h1, h2, h3, h4, h5⟩ hK
  have hKK := iH hK
  clear hK
  gi_wp2
  have hb1 : Below W'.heap.size W' ((W'.alloc (Obj.cells #[.string s.c.name, .string s.c.service, .int .i64 s.c.rank, .int .i64 s.c.born, .int .i64 s.c.room, .int .i64 s.c.hold, .string s.c.select, .slice s.a8 s.c.likes.length s.c8, .int .i64 s.c.apart, .string s.c.near, .string s.c.fixed, .string s.c.at_] 45)).alloc (Obj.cells #[.string s.b.name, .string s.b.zone, .slice s.am s.b.marks.length s.cm, .int .i64 s.b.room, .int .i64 s.b.hold, .bool s.b.closed] 61)) := ((Below.refl _ W').alloc nL _).alloc (by simp) _
  refine hKK.out _ _ (((KeepsOthers.alloc _ _).trans (KeepsOthers.alloc _ _)).from _) (But.of_below (hb1.mono h4)) ⟨h1.below hb1 h1.lt, h2.below hb1 h2.lt, h3.trans (hb1.mono h3.size), Nat.le_trans h4 hb1.size, h5⟩ ⟨W'.heap.size, W'.heap.size + 1, h4, by omega, (Blk.alloc W' _ _).below ((Below.refl _ _).alloc nL _) (Blk.alloc W' _ _).lt, ?_, rfl⟩
  have h := Blk.alloc (W'.alloc (Obj.cells #[.string s.c.name, .string s.c.service, .int .i64 s.c.rank, .int .i64 s.c.born, .int .i64 s.c.room, .int .i64 s.c.hold, .string s.c.select, .slice s.a8 s.c.likes.length s.c8, .int .i64 s.c.apart, .string s.c.near, .string s.c.fixed, .string s.c.at_] 45)) #[.string s.b.name, .string s.b.zone, .slice s.am s.b.marks.length s.cm, .int .i64 s.b.room, .int .i64 s.b.hold, .bool s.b.closed] 61
  simpa using h
 ·rintro l' pre s a' W' hl' ⟨r', hr'⟩ ⟨h1, h2, h3, h4, h5⟩ ⟨Cx, Bx, hCx, hBx, hcx, hbx, rfl⟩ hlt'
  have H1 := iH h1
  have H2 := iH h2
  have H3 := iH h3
  have H4 := iH h4
  have cA : W'.cell? ⟨Cx, 8, none⟩ = some (.int .i64 s.c.apart) := hcx.cell rfl
  have cN : W'.cell? ⟨Bx, 0, none⟩ = some (.string s.b.name) := hbx.cell rfl
  have cZ : W'.cell? ⟨Bx, 1, none⟩ = some (.string s.b.zone) := hbx.cell rfl
  have dA : W'.cell? ⟨w.heap.size, 10, none⟩ = some (.int .i64 y.apart) := h1.cell rfl
  have dN : W'.cell? ⟨w.heap.size, 15, none⟩ = some (.string b.name) := h1.cell rfl
  have dZ : W'.cell? ⟨w.heap.size, 16, none⟩ = some (.string b.zone) := h1.cell rfl
  have r0 : W'.cell? ⟨w.heap.size + 1, 0, none⟩ = some (.bool false) := h2.cell rfl
  have f0 : W'.frozen? ⟨w.heap.size + 1, 0, none⟩ = false := h2.frozen 0
  clear h1 h2 h3 h4 hr' hcx hbx
  by_cases hmx : y.apart < s.c.apart
  ·have hM : mxI y.apart s.c.apart = s.c.apart := if_pos hmx
   by_cases hm0 : s.c.apart = 0
   ·have HM := iH hM
    clear hM
    have HN : Hid (SeenN y b (pre ++ [s]) false) := any_snoc h5 (nearS_no (fun k => k.1 (HM.out.trans hm0)) (fun k => by have := HM.out.symm.trans k.1; omega))
    clear HM h5
    gi_wp2
    exact ⟨(KeepsOthers.refl W').from _, But.refl _ w6.heap.size W', H1.out, H2.out, H3.out, H4.out, HN.out⟩
   ·by_cases hnm : s.b.name = b.name
    ·have tn := bts_eq hnm
     have HM := iH hM
     have HNM := iH hnm
     clear hM hnm
     have HN : Hid (SeenN y b (pre ++ [s]) true) := any_last (pre := pre) (nearS_yes1 (fun e => hm0 (HM.out.symm.trans e)) HNM.out)
     clear HM HNM h5
     gi_wp2
     exact ⟨(KeepsOthers.setCell _ _ _).from _, rfl, H2.out.set 0 (.bool true), H3.out.setCell (p := ⟨w.heap.size + 1, 0, none⟩) (by show w.heap.size ≤ w.heap.size + 1; omega) _, by simp [World.setCell]; exact H4.out, HN.out⟩
    ·have tn := bts_ne hnm
     by_cases hm2 : s.c.apart = 2
     ·by_cases hz : s.b.zone = b.zone
      ·have tz := bts_eq hz
       have HM := iH hM
       have HZ := iH hz
       clear hM hz hnm
       have HN : Hid (SeenN y b (pre ++ [s]) true) := any_last (pre := pre) (nearS_yes2 (HM.out.trans hm2) HZ.out)
       clear HM HZ h5
       gi_wp2
       exact ⟨(KeepsOthers.setCell _ _ _).from _, rfl, H2.out.set 0 (.bool true), H3.out.setCell (p := ⟨w.heap.size + 1, 0, none⟩) (by show w.heap.size ≤ w.heap.size + 1; omega) _, by simp [World.setCell]; exact H4.out, HN.out⟩
      ·have tz := bts_ne hz
       have HM := iH hM
       have HZ := iH hz
       have HNM := iH hnm
       clear hM hz hnm
       have HN : Hid (SeenN y b (pre ++ [s]) false) := any_snoc h5 (nearS_no (fun k => HNM.out k.2) (fun k => HZ.out k.2))
       clear HM HZ HNM h5
       gi_wp2
       exact ⟨(KeepsOthers.refl W').from _, But.refl _ w6.heap.size W', H1.out, H2.out, H3.out, H4.out, HN.out⟩
     ·have HM := iH hM
      have HNM := iH hnm
      clear hM hnm
      have HN : Hid (SeenN y b (pre ++ [s]) false) := any_snoc h5 (nearS_no (fun k => HNM.out k.2) (fun k => hm2 (HM.out.symm.trans k.1)))
      clear HM HNM h5
      gi_wp2
      exact ⟨(KeepsOthers.refl W').from _, But.refl _ w6.heap.size W', H1.out, H2.out, H3.out, H4.out, HN.out⟩
  ·have hM : mxI y.apart s.c.apart = y.apart := if_neg hmx
   by_cases hm0 : y.apart = 0
   ·have HM := iH hM
    clear hM
    have HN : Hid (SeenN y b (pre ++ [s]) false) := any_snoc h5 (nearS_no (fun k => k.1 (HM.out.trans hm0)) (fun k => by have := HM.out.symm.trans k.1; omega))
    clear HM h5
    gi_wp2
    exact ⟨(KeepsOthers.refl W').from _, But.refl _ w6.heap.size W', H1.out, H2.out, H3.out, H4.out, HN.out⟩
   ·by_cases hnm : s.b.name = b.name
    ·have tn := bts_eq hnm
     have HM := iH hM
     have HNM := iH hnm
     clear hM hnm
     have HN : Hid (SeenN y b (pre ++ [s]) true) := any_last (pre := pre) (nearS_yes1 (fun e => hm0 (HM.out.symm.trans e)) HNM.out)
     clear HM HNM h5
     gi_wp2
     exact ⟨(KeepsOthers.setCell _ _ _).from _, rfl, H2.out.set 0 (.bool true), H3.out.setCell (p := ⟨w.heap.size + 1, 0, none⟩) (by show w.heap.size ≤ w.heap.size + 1; omega) _, by simp [World.setCell]; exact H4.out, HN.out⟩
    ·have tn := bts_ne hnm
     by_cases hm2 : y.apart = 2
     ·by_cases hz : s.b.zone = b.zone
      ·have tz := bts_eq hz
       have HM := iH hM
       have HZ := iH hz
       clear hM hz hnm
       have HN : Hid (SeenN y b (pre ++ [s]) true) := any_last (pre := pre) (nearS_yes2 (HM.out.trans hm2) HZ.out)
       clear HM HZ h5
       gi_wp2
       exact ⟨(KeepsOthers.setCell _ _ _).from _, rfl, H2.out.set 0 (.bool true), H3.out.setCell (p := ⟨w.heap.size + 1, 0, none⟩) (by show w.heap.size ≤ w.heap.size + 1; omega) _, by simp [World.setCell]; exact H4.out, HN.out⟩
      ·have tz := bts_ne hz
       have HM := iH hM
       have HZ := iH hz
       have HNM := iH hnm
       clear hM hz hnm
       have HN : Hid (SeenN y b (pre ++ [s]) false) := any_snoc h5 (nearS_no (fun k => HNM.out k.2) (fun k => HZ.out k.2))
       clear HM HZ HNM h5
       gi_wp2
       exact ⟨(KeepsOthers.refl W').from _, But.refl _ w6.heap.size W', H1.out, H2.out, H3.out, H4.out, HN.out⟩
     ·have HM := iH hM
      have HNM := iH hnm
      clear hM hnm
      have HN : Hid (SeenN y b (pre ++ [s]) false) := any_snoc h5 (nearS_no (fun k => HNM.out k.2) (fun k => hm2 (HM.out.symm.trans k.1)))
      clear HM HNM h5
      gi_wp2
      exact ⟨(KeepsOthers.refl W').from _, But.refl _ w6.heap.size W', H1.out, H2.out, H3.out, H4.out, HN.out⟩
 ·rintro D xs W' hD hcame ⟨h1, h2, h3, h4, h5⟩ hK
  have HT : Hid (togI x ci y b = false) := (came_tog HV.out ci y b (HAP.out ci y HY.out).2 x.copies.length xs hcame).trans h5
  have r0 : W'.cell? ⟨w.heap.size + 1, 0, none⟩ = some (.bool false) := h2.cell rfl
  have f0 : W'.frozen? ⟨w.heap.size + 1, 0, none⟩ = false := h2.frozen 0
  have HR : Hid (Blk (w.heap.size + 1) #[.bool false] 4 (W'.setCell ⟨w.heap.size + 1, 0, none⟩ (.bool false))) := h2.set 0 (.bool false)
  have HBL : Hid (Below w.heap.size w (W'.setCell ⟨w.heap.size + 1, 0, none⟩ (.bool false))) := h3.setCell (p := ⟨w.heap.size + 1, 0, none⟩) (by show w.heap.size ≤ w.heap.size + 1; omega) _
  have HK : Hid ((W'.setCell ⟨w.heap.size + 1, 0, none⟩ (.bool false)).heap[D]? = some (.deferred (some []))) := (Below.heap_setCell W' ⟨w.heap.size + 1, 0, none⟩ (.bool false) D (by show D ≠ w.heap.size + 1; omega)).trans hK
  clear h1 h2 h3 h4 h5 hcame hK
  go_wp2_with fail
  generalize W'.setCell ⟨w.heap.size + 1, 0, none⟩ (.bool false) = w10 at *
  refine ⟨by simp, .inl ⟨_, _, rfl, run_takeDeferred HK.out, ?_⟩⟩
  have hbp : ∀ o, Below w.heap.size w10 (w10.putObj D o) := fun o => (Below.refl w.heap.size w10).grown (grownBy_putObj' w10 D _) HBL.out.size (fun k e => by cases e; omega)
  refine ⟨_, results_cell_bool rfl _ _ (w.heap.size + 1) false rfl ?_, ret_bool HT.out.symm, ?_, ?_⟩
  ·exact (World.cell?_of_block (w := w10) (a := ⟨w.heap.size + 1, 0, none⟩) (World.putObj_heap_other (by show w.heap.size + 1 ≠ D; omega))).trans (HR.out.cell rfl)
  ·exact ((HF.out.memo.below HBL.out hm4w).below (hbp _) hm4w).mono (Nat.le_succ _)
  ·exact But.of_below (HBL.out.trans (hbp _))
 ·rintro D c pre W' hD ⟨k, hk, hcame⟩ ⟨rfl, h2, h3, h4, h5⟩ hK
  have HT : Hid (togI x ci y b = true) := anyTo_mono _ hk ((came_tog HV.out ci y b (HAP.out ci y HY.out).2 k pre hcame).trans h5)
  have HR := iH h2
  have HBL := iH h3
  have HK := iH hK
  clear h2 h3 h4 h5 hcame hK
  refine wpIn_wide.2 ?_
  go_wp2_with fail
  refine ⟨by simp, .inl ⟨_, _, rfl, run_takeDeferred HK.out, ?_⟩⟩
  have hbp : ∀ o, Below w.heap.size W' (W'.putObj D o) := fun o => (Below.refl w.heap.size W').grown (grownBy_putObj' W' D _) HBL.out.size (fun k e => by cases e; omega)
  refine ⟨_, results_cell_bool rfl _ _ (w.heap.size + 1) true rfl ?_, ret_bool HT.out.symm, ?_, ?_⟩
  ·exact (World.cell?_of_block (w := W') (a := ⟨w.heap.size + 1, 0, none⟩) (World.putObj_heap_other (by show w.heap.size + 1 ≠ D; omega))).trans (HR.out.cell rfl)
  ·exact ((HF.out.memo.below HBL.out hm4w).below (hbp _) hm4w).mono (Nat.le_succ _)
  ·exact But.of_below (HBL.out.trans (hbp _))
end Go.Proofs.YtebfdgfhadpieaaGreat
namespace Go.Proofs.YtebfdgfhadpieaaGreat
open Go.RowKit Go.WideMaps Go.Maps
attribute [local go_sem] Oper.semAt_some
def SeenZ (b : Brt) (xs : List StX) (q : Bool) : Prop := (xs.any fun s => decide (s.b.zone = b.zone)) = q
def farV (f0 : Bool) (xs : List StX) : Bool := f0 || !xs.isEmpty
theorem farV_snoc (f0 : Bool) (pre : List StX) (s : StX) : farV f0 (pre ++ [s]) = true := by cases pre <;> simp [farV]
theorem came_far {x : Flt} (hv : validI x = true) (ci : Nat) (sv z : ByteArray) : ∀ n xs, Came x ci sv n xs → anyTo (znF x ci sv z) n = xs.any (fun s => decide (s.b.zone = z)) ∧ anyTo (stF x ci sv) n = !xs.isEmpty
 | 0, xs, h => by
  have : xs = [] := h
  subst this
  exact ⟨rfl, rfl⟩
 | n + 1, xs, h => by
  obtain ⟨_, hbN, hbr, hcp⟩ := valid_more hv
  cases hc : x.copies[n]? with
  | none =>
   simp only [Came, hc] at h
   rw [anyTo_no (f := znF x ci sv z) (by unfold znF; rw [hc]), anyTo_no (f := stF x ci sv) (by unfold stF; rw [hc])]
   exact came_far hv ci sv z n xs h
  | some c =>
   simp only [Came, hc] at h
   by_cases hcd : n ≠ ci ∧ c.service = sv
   ·rw [if_pos hcd] at h
    cases hj : lastOf (brN x) c.at_ x.berths.length with
    | none =>
     rw [hj] at h
     have hat : c.at_ = ⟨#[]⟩ := by
      rcases (hcp n c hc).2.2 with e | ⟨s, e⟩
      ·exact e
      ·rw [hj] at e; cases e
     rw [anyTo_no (zn_no hc (fun k => k.2.2.1 hat)), anyTo_no (st_no hc (fun k => k.2.2 hat))]
     exact came_far hv ci sv z n xs h
    | some j =>
     rw [hj] at h
     obtain ⟨pre, s, rfl, hsc, hsb, hpre⟩ := h
     have ih := came_far hv ci sv z n pre hpre
     obtain ⟨b', hb', hbn, hbz⟩ := zone_at hbN hj
     rw [hsb] at hb'
     cases hb'
     have hat : ¬ c.at_ = ⟨#[]⟩ := by
      intro e
      rw [e, nowhere hbr] at hj
      cases hj
     rw [anyTo_yes (st_yes hc hcd.1 hcd.2 hat), List.any_append, ← ih.1]
     refine ⟨?_, by cases pre <;> simp⟩
     by_cases hz : s.b.zone = z
     ·rw [anyTo_yes (zn_yes hc hcd.1 hcd.2 hat (hbz.trans hz))]
      simp [hz]
     ·rw [anyTo_no (zn_no hc (fun k => hz (hbz.symm.trans k.2.2.2)))]
      simp [hz]
   ·rw [if_neg hcd] at h
    rw [anyTo_no (zn_no hc (fun k => hcd ⟨k.1, k.2.1⟩)), anyTo_no (st_no hc (fun k => hcd ⟨k.1, k.2.1⟩))]
    exact came_far hv ci sv z n xs h
set_option maxHeartbeats 4000000 in
set_option maxRecDepth 100000 in
theorem far_any (W : World) (lo p m1 m2 m3 m4 ci bi : Nat) (x : Flt) (a1 : Option Addr) (c1 : Nat) (a2 : Option Addr) (c2 : Nat) (a3 : Option Addr) (c3 : Nat) (y : Cpy) (a7 : Option Addr) (c7 : Nat) (b : Brt) (am : Option Addr) (cm : Nat) (u1 u2 u3 : Int) (hK : SpotK W lo p m4 ci bi x a1 a3 y a7 b am) :
  Says 123 (farI x ci y b) W p m1 m2 m3 m4 ci bi x a1 c1 a2 c2 a3 c3 y a7 c7 b am cm u1 u2 u3 := by
 intro n w hn hW hF
 obtain ⟨hp, hm4, n1, n3, n7, nm, hv, hy, hb⟩ := hK
 obtain ⟨_, l3, _, _, _, _⟩ := valid_parts hv
 obtain ⟨_, _, hbr, hcp⟩ := valid_more hv
 obtain ⟨hbn, hbz, _, _⟩ := hbr bi b hb
 have HBN := iH (name_ne hbn)
 have HAP := iH (valid_apart hv).1
 have HW := iH hW
 have HF := iH hF
 have N1 := iH n1
 have N3 := iH n3
 have HV := iH hv
 have HY := iH hy
 have HB := iH hb
 have hpl : p < w.heap.size := hF.2.1
 have hm1w : m1 < w.heap.size := hF.2.2.1.lt
 have hm4w : m4 < w.heap.size := hF.memo.lt
 have hwW : W.heap.size ≤ w.heap.size := hW.size
 clear hbn hbz hbr hcp hW hF n1 n3 n7 nm hv hy hb
 refine (callsIn_wide (n := 7)).1 ?_
 refine callsIn_of_wp_marks Tryz.func123 rfl trivial ?_ rfl
 refine wpIn_wide.2 ?_
 simp only [Tryz.ntmps123, List.size_toArray, List.length_cons, List.length_nil, Nat.reduceAdd, Nat.reduceSub, Array.replicate_succ, Array.replicate_zero, List.push_toArray, List.append_toArray, List.nil_append, List.cons_append]
 go_upto_region 1 with fail
 have e0 : Blk w.heap.size (spotA p ci bi y a7 c7 b am cm u1 u2 u3) 131 ((w.alloc (Obj.cells (spotA p ci bi y a7 c7 b am cm u1 u2 u3) 131)).alloc (Obj.cells #[.bool false] 4)) := (Blk.alloc w (spotA p ci bi y a7 c7 b am cm u1 u2 u3) 131).below ((Below.refl _ _).alloc nL _) (Blk.alloc w (spotA p ci bi y a7 c7 b am cm u1 u2 u3) 131).lt
 have e1 : Blk (w.heap.size + 1) #[.bool false] 4 ((w.alloc (Obj.cells (spotA p ci bi y a7 c7 b am cm u1 u2 u3) 131)).alloc (Obj.cells #[.bool false] 4)) := by
  have h := Blk.alloc (w.alloc (Obj.cells (spotA p ci bi y a7 c7 b am cm u1 u2 u3) 131)) #[.bool false] 4
  simpa using h
 have e2 : Below w.heap.size w ((w.alloc (Obj.cells (spotA p ci bi y a7 c7 b am cm u1 u2 u3) 131)).alloc (Obj.cells #[.bool false] 4)) := ((Below.refl _ w).alloc nL _).alloc (by simp) _
 have HS1 := iH e0
 have HZ1 := iH e1
 have HB1 := iH e2
 clear e0 e1 e2
 generalize ((w.alloc (Obj.cells (spotA p ci bi y a7 c7 b am cm u1 u2 u3) 131)).alloc (Obj.cells #[.bool false] 4)) = w1 at *
 have HF1 := iH (HF.out.below HB1.out)
 have hsz1 : w.heap.size + 1 < w1.heap.size := HZ1.out.lt
 have s11 : w1.cell? ⟨w.heap.size, 11, none⟩ = some (.string y.near) := HS1.out.cell rfl
 have s3 : w1.cell? ⟨w.heap.size, 3, none⟩ = some (.string y.service) := HS1.out.cell rfl
 by_cases hne : y.near = ⟨#[]⟩
 ·have t1 := empty_toList hne
  have t2 := isEmpty_of hne
  have HT := iH (far_no1 (x := x) (ci := ci) (b := b) hne)
  have r0 : w1.cell? ⟨w.heap.size + 1, 0, none⟩ = some (.bool false) := HZ1.out.cell rfl
  have f0 : w1.frozen? ⟨w.heap.size + 1, 0, none⟩ = false := HZ1.out.frozen 0
  have HR : Hid (Blk (w.heap.size + 1) #[.bool false] 4 (w1.setCell ⟨w.heap.size + 1, 0, none⟩ (.bool false))) := HZ1.out.set 0 (.bool false)
  have HBL : Hid (Below w.heap.size w (w1.setCell ⟨w.heap.size + 1, 0, none⟩ (.bool false))) := HB1.out.setCell (p := ⟨w.heap.size + 1, 0, none⟩) (by show w.heap.size ≤ w.heap.size + 1; omega) _
  clear hne
  go_wp2_with fail
  exact ⟨_, results_cell_bool rfl _ _ (w.heap.size + 1) false rfl (HR.out.cell rfl), ret_bool HT.out.symm, (HF.out.memo.below HBL.out hm4w).mono (Nat.le_succ _), But.of_below HBL.out⟩
 have t1 := nonempty_toList hne
 have t2 := isEmpty_not hne
 have HNE := iH hne
 clear hne
 obtain ⟨f0, hf0⟩ : ∃ f0, (y.near.toList == y.service.toList) = !f0 := ⟨!(y.near.toList == y.service.toList), by simp⟩
 have HF0 : Hid (f0 = decide (¬ y.near = y.service)) := by
  by_cases e : y.near = y.service
  ·rw [bts_eq e] at hf0
   show f0 = _
   rw [decide_eq_false (fun k => k e)]
   simpa using hf0.symm
  ·rw [bts_ne e] at hf0
   show f0 = _
   rw [decide_eq_true e]
   simpa using hf0.symm
 go_upto_region 4 with fail
 have hb2 : Below w1.heap.size w1 (w1.alloc (Obj.cells #[.bool f0] 4)) := (Below.refl _ w1).alloc nL _
 have HS2 := iH (HS1.out.below hb2 HS1.out.lt)
 have HZ2 := iH (HZ1.out.below hb2 HZ1.out.lt)
 have HF2 := iH (HF1.out.below hb2)
 have HB2 : Hid (Below w.heap.size w (w1.alloc (Obj.cells #[.bool f0] 4))) := HB1.out.trans (hb2.mono HB1.out.size)
 have HK2 : Hid (Blk w1.heap.size #[.bool f0] 4 (w1.alloc (Obj.cells #[.bool f0] 4))) := Blk.alloc _ _ _
 obtain ⟨k3, hk3⟩ : ∃ k, k = w1.heap.size := ⟨_, rfl⟩
 have hk3w : w.heap.size + 1 < k3 := by omega
 have hk32 : k3 < (w1.alloc (Obj.cells #[.bool f0] 4)).heap.size := by rw [hk3]; exact HK2.out.lt
 generalize w1.alloc (Obj.cells #[.bool f0] 4) = w2 at *
 rw [← hk3] at HK2 ⊢
 clear HS1 HZ1 HF1 HB1 s11 s3 hb2 hk3 hsz1 hf0 t1 t2
 clear w1
 have s3 : w2.cell? ⟨w.heap.size, 11, none⟩ = some (.string y.near) := HS2.out.cell rfl
 go_wp2_with (first | (refine wpList_load_mid rfl 131 _ rfl w.heap.size 0 (by first | rfl | (simp [go_sem]; done)) (spotA p ci bi y a7 c7 b am cm u1 u2 u3).toList _ HS2.out.rangeA Tryz.underlying131 rfl isz_Spot ?_))
 refine (standing_any (spotA p ci bi y a7 c7 b am cm u1 u2 u3) y.near _).mono ?_
 rintro e w6 ⟨rfl, hw6⟩
 have hb6 : Below w2.heap.size w2 w6 := by rw [hw6]; exact ((Below.refl _ w2).alloc nL _).alloc (by simp) _
 have HX6 : Hid (Blk w2.heap.size (spotA p ci bi y a7 c7 b am cm u1 u2 u3) 131 w6) := by
  rw [hw6]
  exact (Blk.alloc w2 _ _).below ((Below.refl _ _).alloc nL _) (Blk.alloc w2 _ _).lt
 have HV6 : Hid (Blk (w2.heap.size + 1) #[.string y.near] 9 w6) := by
  rw [hw6]
  have h := Blk.alloc (w2.alloc (Obj.cells (spotA p ci bi y a7 c7 b am cm u1 u2 u3) 131)) #[.string y.near] 9
  show Blk _ _ _ _
  simpa using h
 have hF6 := HF2.out.below hb6
 have HIT : Hid (ItIn p m1 w2.heap.size (w2.heap.size + 1) ci x a1 c1 a3 c3 y.near w6) := ⟨HX6.out.cell rfl, HX6.out.cell rfl, HV6.out.cell rfl, hF6.1 1 _ rfl, hF6.1 3 _ rfl, hF6.1 4 _ rfl, hF6.2.2.1⟩
 have HS6 : Hid (Blk w.heap.size (spotA p ci bi y a7 c7 b am cm u1 u2 u3) 131 w6) := HS2.out.below hb6 HS2.out.lt
 have HZ6 : Hid (Blk (w.heap.size + 1) #[.bool false] 4 w6) := HZ2.out.below hb6 HZ2.out.lt
 have HQ6 : Hid (Below w.heap.size w w6) := HB2.out.trans (hb6.mono HB2.out.size)
 have HW6 : Hid (Below W.heap.size W w6) := HW.out.trans (HQ6.out.mono HW.out.size)
 have hs6 : w2.heap.size + 1 < w6.heap.size := HV6.out.lt
 have HK6 := iH (HK2.out.below hb6 HK2.out.lt)
 clear hw6 hb6 hF6 HX6 HV6 s3 HS2 HZ2 HF2
 go_wp2_with fail
 refine wpIn_wide.1 (wpIn_rangeFunc_ownH (F := Fence.wide) (n := 6) rfl (by omega) (gf := 128) (lb := #[.pointer (some ⟨w2.heap.size, 0, none⟩), .pointer (some ⟨w2.heap.size + 1, 0, none⟩)]) rfl trivial (enters_of Tryz.func128 (by kernel_rfl) rfl)
  (standing_stops p m1 w2.heap.size (w2.heap.size + 1) ci k3 w6.heap.size x a1 c1 a3 c3 y.near lo W w6 HW6.out N1.out N3.out HIT.out l3 HW6.out.size (by omega) nL ⟨by omega, by omega⟩ ⟨by omega, by omega⟩ ⟨by omega, by omega⟩ ⟨by omega, by omega⟩)
  (fun h1 h2 => h1.trans h2) (fun W' l' o o' hl _ _ _ => ⟨rfl, rfl, rfl, (grownBy_putObj' W' l' o').size, fun k hk _ => World.putObj_heap_other (by omega)⟩) (Below.refl _ _) (fun _ => rfl)
  (fun pre W' => Blk w.heap.size (spotA p ci bi y a7 c7 b am cm u1 u2 u3) 131 W' ∧ Blk (w.heap.size + 1) #[.bool false] 4 W' ∧ Blk k3 #[.bool (farV f0 pre)] 4 W' ∧ Below w.heap.size w W' ∧ w6.heap.size ≤ W'.heap.size ∧ SeenZ b pre false)
  (fun c pre W' => c = Code.ret ∧ Blk (w.heap.size + 1) #[.bool false] 4 W' ∧ Below w.heap.size w W' ∧ w6.heap.size ≤ W'.heap.size ∧ SeenZ b pre true) ?_ ?_ ?_
  (fun s a' W' => ∃ Bx, w6.heap.size ≤ Bx ∧ Blk Bx #[.string s.b.name, .string s.b.zone, .slice s.am s.b.marks.length s.cm, .int .i64 s.b.room, .int .i64 s.b.hold, .bool s.b.closed] 61 W' ∧ a' = { tmps := #[.agg (spotA p ci bi y a7 c7 b am cm u1 u2 u3), .pointer (some ⟨w.heap.size, 0, none⟩), .pointer (some ⟨w.heap.size + 1, 0, none⟩), .pointer (some ⟨k3, 0, none⟩), undef, .pointer (some ⟨Bx, 0, none⟩), .pointer (some ⟨w.heap.size, 2, none⟩), .pointer (some ⟨w.heap.size, 11, none⟩), .string y.near, .bool false, .pointer (some ⟨w.heap.size, 2, none⟩), .pointer (some ⟨w.heap.size, 11, none⟩), .string y.near, .pointer (some ⟨w.heap.size, 2, none⟩), .pointer (some ⟨w.heap.size, 3, none⟩), .string y.service, .bool f0, .agg (spotA p ci bi y a7 c7 b am cm u1 u2 u3), .pointer (some ⟨w.heap.size, 2, none⟩), .pointer (some ⟨w.heap.size, 11, none⟩), .string y.near, .func (.func 128) #[] #[.pointer (some ⟨w2.heap.size, 0, none⟩), .pointer (some ⟨w2.heap.size + 1, 0, none⟩)], (stEnc s)[0], (stEnc s)[1], undef, undef, undef, undef, undef, undef, undef], defers := [] }) ?_ ?_ ?_ ?_ ?_)
 ·rintro s A B row ⟨h1, h2, hk, h3, h4, h5⟩ hgr hr
  have hne : ∀ k, k < w6.heap.size → some k ≠ row := fun k hk e => by have := (hr _ e.symm).1; omega
  exact ⟨h1.grown hgr (hne _ (by omega)), h2.grown hgr (hne _ (by omega)), hk.grown hgr (hne _ (by omega)), h3.grown hgr h3.size (fun k e => Nat.le_trans HQ6.out.size (hr k e).1), Nat.le_trans h4 hgr.size, h5⟩
 ·rintro c s A B row ⟨h0, h2, h3, h4, h5⟩ hgr hr
  have hne : ∀ k, k < w6.heap.size → some k ≠ row := fun k hk e => by have := (hr _ e.symm).1; omega
  exact ⟨h0, h2.grown hgr (hne _ (by omega)), h3.grown hgr h3.size (fun k e => Nat.le_trans HQ6.out.size (hr k e).1), Nat.le_trans h4 hgr.size, h5⟩
 ·exact ⟨HS6.out, HZ6.out, by simpa [farV] using HK6.out, HQ6.out, Nat.le_refl _, rfl⟩
 ·rintro s a' _ A B row ⟨Bx, h1, h4, h5⟩ hgr hr
  refine ⟨Bx, h1, h4.grown hgr (fun e => ?_), h5⟩
  obtain ⟨_, o, ho, hc⟩ := hr _ e.symm
  rw [show A.heap[Bx]? = _ from h4] at ho
  cases ho
  cases hc
 ·rintro l' pre s W' K ⟨h1, h2, hk, h3, h4, h5⟩ hK
  have hKK := iH hK
  clear hK
  gi_wp2
  have hb1 : Below W'.heap.size W' (W'.alloc (Obj.cells #[.string s.b.name, .string s.b.zone, .slice s.am s.b.marks.length s.cm, .int .i64 s.b.room, .int .i64 s.b.hold, .bool s.b.closed] 61)) := (Below.refl _ W').alloc nL _
  exact hKK.out _ _ ((KeepsOthers.alloc _ _).from _) (But.of_below (hb1.mono h4)) ⟨h1.below hb1 h1.lt, h2.below hb1 h2.lt, hk.below hb1 hk.lt, h3.trans (hb1.mono h3.size), Nat.le_trans h4 hb1.size, h5⟩ ⟨W'.heap.size, h4, Blk.alloc _ _ _, rfl⟩
 ·rintro l' pre s a' W' hl' ⟨r', hr'⟩ ⟨h1, h2, hk, h3, h4, h5⟩ ⟨Bx, hBx, hbx, rfl⟩ hlt'
  have H1 := iH h1
  have H2 := iH h2
  have HK := iH hk
  have H3 := iH h3
  have H4 := iH h4
  have cZ : W'.cell? ⟨Bx, 1, none⟩ = some (.string s.b.zone) := hbx.cell rfl
  have dZ : W'.cell? ⟨w.heap.size, 16, none⟩ = some (.string b.zone) := h1.cell rfl
  have r0 : W'.cell? ⟨w.heap.size + 1, 0, none⟩ = some (.bool false) := h2.cell rfl
  have fr0 : W'.frozen? ⟨w.heap.size + 1, 0, none⟩ = false := h2.frozen 0
  have r3 : W'.cell? ⟨k3, 0, none⟩ = some (.bool (farV f0 pre)) := hk.cell rfl
  have fr3 : W'.frozen? ⟨k3, 0, none⟩ = false := hk.frozen 0
  clear h1 h2 hk h3 h4 hr' hbx
  by_cases hz : s.b.zone = b.zone
  ·have tz := bts_eq hz
   have HN : Hid (SeenZ b (pre ++ [s]) true) := any_last (pre := pre) (decide_eq_true hz)
   clear hz h5
   gi_wp2
   exact ⟨(KeepsOthers.setCell _ _ _).from _, rfl, H2.out.set 0 (.bool false), H3.out.setCell (p := ⟨w.heap.size + 1, 0, none⟩) (by show w.heap.size ≤ w.heap.size + 1; omega) _, by simp [World.setCell]; exact H4.out, HN.out⟩
  ·have tz := bts_ne hz
   have HN : Hid (SeenZ b (pre ++ [s]) false) := any_snoc h5 (decide_eq_false hz)
   clear hz h5
   gi_wp2
   refine ⟨(KeepsOthers.setCell _ _ _).from _, (But.refl k3 w6.heap.size W').set 0 _, H1.out.other (a := ⟨k3, 0, none⟩) (by show w.heap.size ≠ k3; omega) _, H2.out.other (a := ⟨k3, 0, none⟩) (by show w.heap.size + 1 ≠ k3; omega) _, ?_, H3.out.setCell (p := ⟨k3, 0, none⟩) (by show w.heap.size ≤ k3; omega) _, by simp [World.setCell]; exact H4.out, HN.out⟩
   rw [farV_snoc]
   exact HK.out.set 0 (.bool true)
 ·rintro D xs W' hD hcame ⟨h1, h2, hk, h3, h4, h5⟩ hK
  obtain ⟨q1, q2⟩ := came_far HV.out ci y.near b.zone x.copies.length xs hcame
  have HT : Hid (farI x ci y b = farV f0 xs) := far_is HNE.out (q1.trans h5) q2 HF0.out
  have r0 : W'.cell? ⟨w.heap.size + 1, 0, none⟩ = some (.bool false) := h2.cell rfl
  have fr0 : W'.frozen? ⟨w.heap.size + 1, 0, none⟩ = false := h2.frozen 0
  have r3 : W'.cell? ⟨k3, 0, none⟩ = some (.bool (farV f0 xs)) := hk.cell rfl
  obtain ⟨q, hq⟩ : ∃ q, farV f0 xs = q := ⟨_, rfl⟩
  rw [hq] at r3 HT
  have HR : Hid (Blk (w.heap.size + 1) #[.bool q] 4 (W'.setCell ⟨w.heap.size + 1, 0, none⟩ (.bool q))) := h2.set 0 (.bool q)
  have HBL : Hid (Below w.heap.size w (W'.setCell ⟨w.heap.size + 1, 0, none⟩ (.bool q))) := h3.setCell (p := ⟨w.heap.size + 1, 0, none⟩) (by show w.heap.size ≤ w.heap.size + 1; omega) _
  have HK : Hid ((W'.setCell ⟨w.heap.size + 1, 0, none⟩ (.bool q)).heap[D]? = some (.deferred (some []))) := (Below.heap_setCell W' ⟨w.heap.size + 1, 0, none⟩ (.bool q) D (by show D ≠ w.heap.size + 1; omega)).trans hK
  clear h1 h2 hk h3 h4 h5 hcame hK q1 q2 hq
  go_wp2_with fail
  generalize W'.setCell ⟨w.heap.size + 1, 0, none⟩ (.bool q) = w10 at *
  refine ⟨by simp, .inl ⟨_, _, rfl, run_takeDeferred HK.out, ?_⟩⟩
  have hbp : ∀ o, Below w.heap.size w10 (w10.putObj D o) := fun o => (Below.refl w.heap.size w10).grown (grownBy_putObj' w10 D _) HBL.out.size (fun k e => by cases e; omega)
  refine ⟨_, results_cell_bool rfl _ _ (w.heap.size + 1) q rfl ?_, ret_bool HT.out.symm, ?_, ?_⟩
  ·exact (World.cell?_of_block (w := w10) (a := ⟨w.heap.size + 1, 0, none⟩) (World.putObj_heap_other (by show w.heap.size + 1 ≠ D; omega))).trans (HR.out.cell rfl)
  ·exact ((HF.out.memo.below HBL.out hm4w).below (hbp _) hm4w).mono (Nat.le_succ _)
  ·exact But.of_below (HBL.out.trans (hbp _))
 ·rintro D c pre W' hD ⟨k, hk, hcame⟩ ⟨rfl, h2, h3, h4, h5⟩ hK
  have HT : Hid (farI x ci y b = false) := far_no2 (anyTo_mono _ hk ((came_far HV.out ci y.near b.zone k pre hcame).1.trans h5))
  have HR := iH h2
  have HBL := iH h3
  have HK := iH hK
  clear h2 h3 h4 h5 hcame hK
  refine wpIn_wide.2 ?_
  go_wp2_with fail
  refine ⟨by simp, .inl ⟨_, _, rfl, run_takeDeferred HK.out, ?_⟩⟩
  have hbp : ∀ o, Below w.heap.size W' (W'.putObj D o) := fun o => (Below.refl w.heap.size W').grown (grownBy_putObj' W' D _) HBL.out.size (fun k e => by cases e; omega)
  refine ⟨_, results_cell_bool rfl _ _ (w.heap.size + 1) false rfl ?_, ret_bool HT.out.symm, ?_, ?_⟩
  ·exact (World.cell?_of_block (w := W') (a := ⟨w.heap.size + 1, 0, none⟩) (World.putObj_heap_other (by show w.heap.size + 1 ≠ D; omega))).trans (HR.out.cell rfl)
  ·exact ((HF.out.memo.below HBL.out hm4w).below (hbp _) hm4w).mono (Nat.le_succ _)
  ·exact But.of_below (HBL.out.trans (hbp _))
end Go.Proofs.YtebfdgfhadpieaaGreat
