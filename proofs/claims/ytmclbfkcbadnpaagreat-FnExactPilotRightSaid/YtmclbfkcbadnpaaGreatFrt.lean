import Derived.Test.YtmclbfkcbadnpaaGreatJ38
import Derived.Test.YtmclbfkcbadnpaaGreatJ39
import Derived.Test.YtmclbfkcbadnpaaGreatTog
namespace Go.Proofs.YtmclbfkcbadnpaaGreat
open Go.RowKit Go.WideMaps Go.Maps

attribute [local go_sem] Oper.semAt_some

def SeenZ (b : Brt) (xs : List StX) (q : Bool) : Prop := (xs.any fun s => decide (s.b.zone = b.zone)) = q
def farV (f0 : Bool) (xs : List StX) : Bool := f0 || !xs.isEmpty
theorem farV_snoc (f0 : Bool) (pre : List StX) (s : StX) : farV f0 (pre ++ [s]) = true := by cases pre <;> simp [farV]

theorem came_far {x : Flt} (hv : validI x = true) (ci : Nat) (sv z : ByteArray) : ∀ n xs, Came x ci sv n xs → anyTo (znF x ci sv z) n = xs.any (fun s => decide (s.b.zone = z)) ∧ anyTo (stF x ci sv) n = !xs.isEmpty
 | 0, xs, h => by
  have : xs = [] := h
  subst this
  exact ⟨rfl, rfl⟩
 | n + 1, xs, h => by
  obtain ⟨_, hbN, hbr, hcp⟩ := valid_more hv
  cases hc : x.copies[n]? with
  | none =>
   simp only [Came, hc] at h
   rw [anyTo_no (f := znF x ci sv z) (by unfold znF; rw [hc]), anyTo_no (f := stF x ci sv) (by unfold stF; rw [hc])]
   exact came_far hv ci sv z n xs h
  | some c =>
   simp only [Came, hc] at h
   by_cases hcd : n ≠ ci ∧ c.service = sv
   ·rw [if_pos hcd] at h
    cases hj : lastOf (brN x) c.at_ x.berths.length with
    | none =>
     rw [hj] at h
     have hat : c.at_ = ⟨#[]⟩ := by
      rcases (hcp n c hc).2.2 with e | ⟨s, e⟩
      ·exact e
      ·rw [hj] at e; cases e
     rw [anyTo_no (zn_no hc (fun k => k.2.2.1 hat)), anyTo_no (st_no hc (fun k => k.2.2 hat))]
     exact came_far hv ci sv z n xs h
    | some j =>
     rw [hj] at h
     obtain ⟨pre, s, rfl, hsc, hsb, hpre⟩ := h
     have ih := came_far hv ci sv z n pre hpre
     obtain ⟨b', hb', hbn, hbz⟩ := zone_at hbN hj
     rw [hsb] at hb'
     cases hb'
     have hat : ¬ c.at_ = ⟨#[]⟩ := by
      intro e
      rw [e, nowhere hbr] at hj
      cases hj
     rw [anyTo_yes (st_yes hc hcd.1 hcd.2 hat), List.any_append, ← ih.1]
     refine ⟨?_, by cases pre <;> simp⟩
     by_cases hz : s.b.zone = z
     ·rw [anyTo_yes (zn_yes hc hcd.1 hcd.2 hat (hbz.trans hz))]
      simp [hz]
     ·rw [anyTo_no (zn_no hc (fun k => hz (hbz.symm.trans k.2.2.2)))]
      simp [hz]
   ·rw [if_neg hcd] at h
    rw [anyTo_no (zn_no hc (fun k => hcd ⟨k.1, k.2.1⟩)), anyTo_no (st_no hc (fun k => hcd ⟨k.1, k.2.1⟩))]
    exact came_far hv ci sv z n xs h

set_option maxHeartbeats 4000000 in
set_option maxRecDepth 100000 in
theorem far_any (W : World) (lo p m1 m2 m3 m4 ci bi : Nat) (x : Flt) (a1 : Option Addr) (c1 : Nat) (a2 : Option Addr) (c2 : Nat) (a3 : Option Addr) (c3 : Nat) (y : Cpy) (a7 : Option Addr) (c7 : Nat) (b : Brt) (am : Option Addr) (cm : Nat) (u1 u2 u3 : Int) (hK : SpotK W lo p m4 ci bi x a1 a3 y a7 b am) :
  Says 71 (farI x ci y b) W p m1 m2 m3 m4 ci bi x a1 c1 a2 c2 a3 c3 y a7 c7 b am cm u1 u2 u3 := by
 intro n w hn hW hF
 obtain ⟨hp, hm4, n1, n3, n7, nm, hv, hy, hb⟩ := hK
 obtain ⟨_, l3, _, _, _, _⟩ := valid_parts hv
 obtain ⟨_, _, hbr, hcp⟩ := valid_more hv
 obtain ⟨hbn, hbz, _, _⟩ := hbr bi b hb
 have HBN := Hid.intro (name_ne hbn)
 have HAP := Hid.intro (valid_apart hv).1
 have HW := Hid.intro hW
 have HF := Hid.intro hF
 have N1 := Hid.intro n1
 have N3 := Hid.intro n3
 have HV := Hid.intro hv
 have HY := Hid.intro hy
 have HB := Hid.intro hb
 have hpl : p < w.heap.size := hF.2.1
 have hm1w : m1 < w.heap.size := hF.2.2.1.lt
 have hm4w : m4 < w.heap.size := hF.memo.lt
 have hwW : W.heap.size ≤ w.heap.size := hW.size
 clear hbn hbz hbr hcp hW hF n1 n3 n7 nm hv hy hb
 refine (callsIn_wide (n := 7)).1 ?_
 refine callsIn_of_wp_marks Tryz.func71 rfl trivial ?_ rfl
 refine wpIn_wide.2 ?_
 simp only [Tryz.ntmps71, List.size_toArray, List.length_cons, List.length_nil, Nat.reduceAdd, Nat.reduceSub, Array.replicate_succ, Array.replicate_zero, List.push_toArray, List.append_toArray, List.nil_append, List.cons_append]
 go_upto_region 1 with fail
 have e0 : Blk w.heap.size (spotA p ci bi y a7 c7 b am cm u1 u2 u3) 63 ((w.alloc (Obj.cells (spotA p ci bi y a7 c7 b am cm u1 u2 u3) 63)).alloc (Obj.cells #[.bool false] 4)) := (Blk.alloc w (spotA p ci bi y a7 c7 b am cm u1 u2 u3) 63).below ((Below.refl _ _).alloc (Nat.le_refl _) _) (Blk.alloc w (spotA p ci bi y a7 c7 b am cm u1 u2 u3) 63).lt
 have e1 : Blk (w.heap.size + 1) #[.bool false] 4 ((w.alloc (Obj.cells (spotA p ci bi y a7 c7 b am cm u1 u2 u3) 63)).alloc (Obj.cells #[.bool false] 4)) := by
  have h := Blk.alloc (w.alloc (Obj.cells (spotA p ci bi y a7 c7 b am cm u1 u2 u3) 63)) #[.bool false] 4
  simpa using h
 have e2 : Below w.heap.size w ((w.alloc (Obj.cells (spotA p ci bi y a7 c7 b am cm u1 u2 u3) 63)).alloc (Obj.cells #[.bool false] 4)) := ((Below.refl _ w).alloc (Nat.le_refl _) _).alloc (by simp) _
 have HS1 := Hid.intro e0
 have HZ1 := Hid.intro e1
 have HB1 := Hid.intro e2
 clear e0 e1 e2
 generalize ((w.alloc (Obj.cells (spotA p ci bi y a7 c7 b am cm u1 u2 u3) 63)).alloc (Obj.cells #[.bool false] 4)) = w1 at *
 have HF1 := Hid.intro (HF.out.below HB1.out)
 have hsz1 : w.heap.size + 1 < w1.heap.size := HZ1.out.lt
 have s11 : w1.cell? ⟨w.heap.size, 11, none⟩ = some (.string y.near) := HS1.out.cell rfl
 have s3 : w1.cell? ⟨w.heap.size, 3, none⟩ = some (.string y.service) := HS1.out.cell rfl
 by_cases hne : y.near = ⟨#[]⟩
 ·have t1 := empty_toList hne
  have t2 := isEmpty_of hne
  have HT := Hid.intro (far_no1 (x := x) (ci := ci) (b := b) hne)
  have r0 : w1.cell? ⟨w.heap.size + 1, 0, none⟩ = some (.bool false) := HZ1.out.cell rfl
  have f0 : w1.frozen? ⟨w.heap.size + 1, 0, none⟩ = false := HZ1.out.frozen 0
  have HR : Hid (Blk (w.heap.size + 1) #[.bool false] 4 (w1.setCell ⟨w.heap.size + 1, 0, none⟩ (.bool false))) := HZ1.out.set 0 (.bool false)
  have HBL : Hid (Below w.heap.size w (w1.setCell ⟨w.heap.size + 1, 0, none⟩ (.bool false))) := HB1.out.setCell (p := ⟨w.heap.size + 1, 0, none⟩) (by show w.heap.size ≤ w.heap.size + 1; omega) _
  clear hne
  go_wp2_with fail
  exact ⟨_, results_cell_bool rfl _ _ (w.heap.size + 1) false rfl (HR.out.cell rfl), ret_bool HT.out.symm, (HF.out.memo.below HBL.out hm4w).mono (Nat.le_succ _), But.of_below HBL.out⟩
 have t1 := nonempty_toList hne
 have t2 := isEmpty_not hne
 have HNE := Hid.intro hne
 clear hne
 obtain ⟨f0, hf0⟩ : ∃ f0, (y.near.toList == y.service.toList) = !f0 := ⟨!(y.near.toList == y.service.toList), by simp⟩
 have HF0 : Hid (f0 = decide (¬ y.near = y.service)) := by
  by_cases e : y.near = y.service
  ·rw [bts_eq e] at hf0
   show f0 = _
   rw [decide_eq_false (fun k => k e)]
   simpa using hf0.symm
  ·rw [bts_ne e] at hf0
   show f0 = _
   rw [decide_eq_true e]
   simpa using hf0.symm
 go_upto_region 4 with fail
 have hb2 : Below w1.heap.size w1 (w1.alloc (Obj.cells #[.bool f0] 4)) := (Below.refl _ w1).alloc (Nat.le_refl _) _
 have HS2 := Hid.intro (HS1.out.below hb2 HS1.out.lt)
 have HZ2 := Hid.intro (HZ1.out.below hb2 HZ1.out.lt)
 have HF2 := Hid.intro (HF1.out.below hb2)
 have HB2 : Hid (Below w.heap.size w (w1.alloc (Obj.cells #[.bool f0] 4))) := HB1.out.trans (hb2.mono HB1.out.size)
 have HK2 : Hid (Blk w1.heap.size #[.bool f0] 4 (w1.alloc (Obj.cells #[.bool f0] 4))) := Blk.alloc _ _ _
 obtain ⟨k3, hk3⟩ : ∃ k, k = w1.heap.size := ⟨_, rfl⟩
 have hk3w : w.heap.size + 1 < k3 := by omega
 have hk32 : k3 < (w1.alloc (Obj.cells #[.bool f0] 4)).heap.size := by rw [hk3]; exact HK2.out.lt
 generalize w1.alloc (Obj.cells #[.bool f0] 4) = w2 at *
 rw [← hk3] at HK2 ⊢
 clear HS1 HZ1 HF1 HB1 s11 s3 hb2 hk3 hsz1 hf0 t1 t2
 clear w1
 have s3 : w2.cell? ⟨w.heap.size, 11, none⟩ = some (.string y.near) := HS2.out.cell rfl
 go_wp2_with (first | (refine wpList_load_mid rfl 63 _ rfl w.heap.size 0 (by first | rfl | (simp [go_sem]; done)) (spotA p ci bi y a7 c7 b am cm u1 u2 u3).toList _ HS2.out.rangeA Tryz.underlying63 rfl isz_Spot ?_))
 refine (standing_any (spotA p ci bi y a7 c7 b am cm u1 u2 u3) y.near _).mono ?_
 rintro e w6 ⟨rfl, hw6⟩
 have hb6 : Below w2.heap.size w2 w6 := by rw [hw6]; exact ((Below.refl _ w2).alloc (Nat.le_refl _) _).alloc (by simp) _
 have HX6 : Hid (Blk w2.heap.size (spotA p ci bi y a7 c7 b am cm u1 u2 u3) 63 w6) := by
  rw [hw6]
  exact (Blk.alloc w2 _ _).below ((Below.refl _ _).alloc (Nat.le_refl _) _) (Blk.alloc w2 _ _).lt
 have HV6 : Hid (Blk (w2.heap.size + 1) #[.string y.near] 9 w6) := by
  rw [hw6]
  have h := Blk.alloc (w2.alloc (Obj.cells (spotA p ci bi y a7 c7 b am cm u1 u2 u3) 63)) #[.string y.near] 9
  show Blk _ _ _ _
  simpa using h
 have hF6 := HF2.out.below hb6
 have HIT : Hid (ItIn p m1 w2.heap.size (w2.heap.size + 1) ci x a1 c1 a3 c3 y.near w6) := ⟨HX6.out.cell rfl, HX6.out.cell rfl, HV6.out.cell rfl, hF6.1 1 _ rfl, hF6.1 3 _ rfl, hF6.1 4 _ rfl, hF6.2.2.1⟩
 have HS6 : Hid (Blk w.heap.size (spotA p ci bi y a7 c7 b am cm u1 u2 u3) 63 w6) := HS2.out.below hb6 HS2.out.lt
 have HZ6 : Hid (Blk (w.heap.size + 1) #[.bool false] 4 w6) := HZ2.out.below hb6 HZ2.out.lt
 have HQ6 : Hid (Below w.heap.size w w6) := HB2.out.trans (hb6.mono HB2.out.size)
 have HW6 : Hid (Below W.heap.size W w6) := HW.out.trans (HQ6.out.mono HW.out.size)
 have hs6 : w2.heap.size + 1 < w6.heap.size := HV6.out.lt
 have HK6 := Hid.intro (HK2.out.below hb6 HK2.out.lt)
 clear hw6 hb6 hF6 HX6 HV6 s3 HS2 HZ2 HF2
 go_wp2_with fail
 refine wpIn_wide.1 (wpIn_rangeFunc_ownH (F := Fence.wide) (n := 6) rfl (by omega) (gf := 135) (lb := #[.pointer (some ⟨w2.heap.size, 0, none⟩), .pointer (some ⟨w2.heap.size + 1, 0, none⟩)]) rfl trivial (enters_of Tryz.func135 (by kernel_rfl) rfl)
  (standing_stops p m1 w2.heap.size (w2.heap.size + 1) ci k3 w6.heap.size x a1 c1 a3 c3 y.near lo W w6 HW6.out N1.out N3.out HIT.out l3 HW6.out.size (by omega) (Nat.le_refl _) ⟨by omega, by omega⟩ ⟨by omega, by omega⟩ ⟨by omega, by omega⟩ ⟨by omega, by omega⟩)
  (fun h1 h2 => h1.trans h2) (fun W' l' o o' hl _ _ _ => ⟨rfl, rfl, rfl, (grownBy_putObj' W' l' o').size, fun k hk _ => World.putObj_heap_other (by omega)⟩) (Below.refl _ _) (fun _ => rfl)
  (fun pre W' => Blk w.heap.size (spotA p ci bi y a7 c7 b am cm u1 u2 u3) 63 W' ∧ Blk (w.heap.size + 1) #[.bool false] 4 W' ∧ Blk k3 #[.bool (farV f0 pre)] 4 W' ∧ Below w.heap.size w W' ∧ w6.heap.size ≤ W'.heap.size ∧ SeenZ b pre false)
  (fun c pre W' => c = Code.ret ∧ Blk (w.heap.size + 1) #[.bool false] 4 W' ∧ Below w.heap.size w W' ∧ w6.heap.size ≤ W'.heap.size ∧ SeenZ b pre true) ?_ ?_ ?_
  (fun s a' W' => ∃ Bx, w6.heap.size ≤ Bx ∧ Blk Bx #[.string s.b.name, .string s.b.zone, .slice s.am s.b.marks.length s.cm, .int .i64 s.b.room, .int .i64 s.b.hold, .bool s.b.closed] 55 W' ∧ a' = { tmps := #[.agg (spotA p ci bi y a7 c7 b am cm u1 u2 u3), .pointer (some ⟨w.heap.size, 0, none⟩), .pointer (some ⟨w.heap.size + 1, 0, none⟩), .pointer (some ⟨k3, 0, none⟩), undef, .pointer (some ⟨Bx, 0, none⟩), .pointer (some ⟨w.heap.size, 2, none⟩), .pointer (some ⟨w.heap.size, 11, none⟩), .string y.near, .bool false, .pointer (some ⟨w.heap.size, 2, none⟩), .pointer (some ⟨w.heap.size, 11, none⟩), .string y.near, .pointer (some ⟨w.heap.size, 2, none⟩), .pointer (some ⟨w.heap.size, 3, none⟩), .string y.service, .bool f0, .agg (spotA p ci bi y a7 c7 b am cm u1 u2 u3), .pointer (some ⟨w.heap.size, 2, none⟩), .pointer (some ⟨w.heap.size, 11, none⟩), .string y.near, .func (.func 135) #[] #[.pointer (some ⟨w2.heap.size, 0, none⟩), .pointer (some ⟨w2.heap.size + 1, 0, none⟩)], (stEnc s)[0], (stEnc s)[1], undef, undef, undef, undef, undef, undef, undef], defers := [] }) ?_ ?_ ?_ ?_ ?_)
 ·rintro s A B row ⟨h1, h2, hk, h3, h4, h5⟩ hgr hr
  have hne : ∀ k, k < w6.heap.size → some k ≠ row := fun k hk e => by have := (hr _ e.symm).1; omega
  exact ⟨h1.grown hgr (hne _ (by omega)), h2.grown hgr (hne _ (by omega)), hk.grown hgr (hne _ (by omega)), h3.grown hgr h3.size (fun k e => Nat.le_trans HQ6.out.size (hr k e).1), Nat.le_trans h4 hgr.size, h5⟩
 ·rintro c s A B row ⟨h0, h2, h3, h4, h5⟩ hgr hr
  have hne : ∀ k, k < w6.heap.size → some k ≠ row := fun k hk e => by have := (hr _ e.symm).1; omega
  exact ⟨h0, h2.grown hgr (hne _ (by omega)), h3.grown hgr h3.size (fun k e => Nat.le_trans HQ6.out.size (hr k e).1), Nat.le_trans h4 hgr.size, h5⟩
 ·exact ⟨HS6.out, HZ6.out, by simpa [farV] using HK6.out, HQ6.out, Nat.le_refl _, rfl⟩
 ·rintro s a' _ A B row ⟨Bx, h1, h4, h5⟩ hgr hr
  refine ⟨Bx, h1, h4.grown hgr (fun e => ?_), h5⟩
  obtain ⟨_, o, ho, hc⟩ := hr _ e.symm
  rw [show A.heap[Bx]? = _ from h4] at ho
  cases ho
  cases hc
 ·rintro l' pre s W' K ⟨h1, h2, hk, h3, h4, h5⟩ hK
  have hKK := Hid.intro hK
  clear hK
  gi_wp2
  have hb1 : Below W'.heap.size W' (W'.alloc (Obj.cells #[.string s.b.name, .string s.b.zone, .slice s.am s.b.marks.length s.cm, .int .i64 s.b.room, .int .i64 s.b.hold, .bool s.b.closed] 55)) := (Below.refl _ W').alloc (Nat.le_refl _) _
  exact hKK.out _ _ ((KeepsOthers.alloc _ _).from _) (But.of_below (hb1.mono h4)) ⟨h1.below hb1 h1.lt, h2.below hb1 h2.lt, hk.below hb1 hk.lt, h3.trans (hb1.mono h3.size), Nat.le_trans h4 hb1.size, h5⟩ ⟨W'.heap.size, h4, Blk.alloc _ _ _, rfl⟩
 ·rintro l' pre s a' W' hl' ⟨r', hr'⟩ ⟨h1, h2, hk, h3, h4, h5⟩ ⟨Bx, hBx, hbx, rfl⟩ hlt'
  have H1 := Hid.intro h1
  have H2 := Hid.intro h2
  have HK := Hid.intro hk
  have H3 := Hid.intro h3
  have H4 := Hid.intro h4
  have cZ : W'.cell? ⟨Bx, 1, none⟩ = some (.string s.b.zone) := hbx.cell rfl
  have dZ : W'.cell? ⟨w.heap.size, 16, none⟩ = some (.string b.zone) := h1.cell rfl
  have r0 : W'.cell? ⟨w.heap.size + 1, 0, none⟩ = some (.bool false) := h2.cell rfl
  have fr0 : W'.frozen? ⟨w.heap.size + 1, 0, none⟩ = false := h2.frozen 0
  have r3 : W'.cell? ⟨k3, 0, none⟩ = some (.bool (farV f0 pre)) := hk.cell rfl
  have fr3 : W'.frozen? ⟨k3, 0, none⟩ = false := hk.frozen 0
  clear h1 h2 hk h3 h4 hr' hbx
  by_cases hz : s.b.zone = b.zone
  ·have tz := bts_eq hz
   have HN : Hid (SeenZ b (pre ++ [s]) true) := any_last (pre := pre) (decide_eq_true hz)
   clear hz h5
   gi_wp2
   exact ⟨(KeepsOthers.setCell _ _ _).from _, rfl, H2.out.set 0 (.bool false), H3.out.setCell (p := ⟨w.heap.size + 1, 0, none⟩) (by show w.heap.size ≤ w.heap.size + 1; omega) _, by simp [World.setCell]; exact H4.out, HN.out⟩
  ·have tz := bts_ne hz
   have HN : Hid (SeenZ b (pre ++ [s]) false) := any_snoc h5 (decide_eq_false hz)
   clear hz h5
   gi_wp2
   refine ⟨(KeepsOthers.setCell _ _ _).from _, (But.refl k3 w6.heap.size W').set 0 _, H1.out.other (a := ⟨k3, 0, none⟩) (by show w.heap.size ≠ k3; omega) _, H2.out.other (a := ⟨k3, 0, none⟩) (by show w.heap.size + 1 ≠ k3; omega) _, ?_, H3.out.setCell (p := ⟨k3, 0, none⟩) (by show w.heap.size ≤ k3; omega) _, by simp [World.setCell]; exact H4.out, HN.out⟩
   rw [farV_snoc]
   exact HK.out.set 0 (.bool true)
 ·rintro D xs W' hD hcame ⟨h1, h2, hk, h3, h4, h5⟩ hK
  obtain ⟨q1, q2⟩ := came_far HV.out ci y.near b.zone x.copies.length xs hcame
  have HT : Hid (farI x ci y b = farV f0 xs) := far_is HNE.out (q1.trans h5) q2 HF0.out
  have r0 : W'.cell? ⟨w.heap.size + 1, 0, none⟩ = some (.bool false) := h2.cell rfl
  have fr0 : W'.frozen? ⟨w.heap.size + 1, 0, none⟩ = false := h2.frozen 0
  have r3 : W'.cell? ⟨k3, 0, none⟩ = some (.bool (farV f0 xs)) := hk.cell rfl
  obtain ⟨q, hq⟩ : ∃ q, farV f0 xs = q := ⟨_, rfl⟩
  rw [hq] at r3 HT
  have HR : Hid (Blk (w.heap.size + 1) #[.bool q] 4 (W'.setCell ⟨w.heap.size + 1, 0, none⟩ (.bool q))) := h2.set 0 (.bool q)
  have HBL : Hid (Below w.heap.size w (W'.setCell ⟨w.heap.size + 1, 0, none⟩ (.bool q))) := h3.setCell (p := ⟨w.heap.size + 1, 0, none⟩) (by show w.heap.size ≤ w.heap.size + 1; omega) _
  have HK : Hid ((W'.setCell ⟨w.heap.size + 1, 0, none⟩ (.bool q)).heap[D]? = some (.deferred (some []))) := (Below.heap_setCell W' ⟨w.heap.size + 1, 0, none⟩ (.bool q) D (by show D ≠ w.heap.size + 1; omega)).trans hK
  clear h1 h2 hk h3 h4 h5 hcame hK q1 q2 hq
  go_wp2_with fail
  generalize W'.setCell ⟨w.heap.size + 1, 0, none⟩ (.bool q) = w10 at *
  refine ⟨by simp, .inl ⟨_, _, rfl, run_takeDeferred HK.out, ?_⟩⟩
  have hbp : ∀ o, Below w.heap.size w10 (w10.putObj D o) := fun o => (Below.refl w.heap.size w10).grown (grownBy_putObj' w10 D _) HBL.out.size (fun k e => by cases e; omega)
  refine ⟨_, results_cell_bool rfl _ _ (w.heap.size + 1) q rfl ?_, ret_bool HT.out.symm, ?_, ?_⟩
  ·exact (World.cell?_of_block (w := w10) (a := ⟨w.heap.size + 1, 0, none⟩) (World.putObj_heap_other (by show w.heap.size + 1 ≠ D; omega))).trans (HR.out.cell rfl)
  ·exact ((HF.out.memo.below HBL.out hm4w).below (hbp _) hm4w).mono (Nat.le_succ _)
  ·exact But.of_below (HBL.out.trans (hbp _))
 ·rintro D c pre W' hD ⟨k, hk, hcame⟩ ⟨rfl, h2, h3, h4, h5⟩ hK
  have HT : Hid (farI x ci y b = false) := far_no2 (anyTo_mono _ hk ((came_far HV.out ci y.near b.zone k pre hcame).1.trans h5))
  have HR := Hid.intro h2
  have HBL := Hid.intro h3
  have HK := Hid.intro hK
  clear h2 h3 h4 h5 hcame hK
  refine wpIn_wide.2 ?_
  go_wp2_with fail
  refine ⟨by simp, .inl ⟨_, _, rfl, run_takeDeferred HK.out, ?_⟩⟩
  have hbp : ∀ o, Below w.heap.size W' (W'.putObj D o) := fun o => (Below.refl w.heap.size W').grown (grownBy_putObj' W' D _) HBL.out.size (fun k e => by cases e; omega)
  refine ⟨_, results_cell_bool rfl _ _ (w.heap.size + 1) false rfl ?_, ret_bool HT.out.symm, ?_, ?_⟩
  ·exact (World.cell?_of_block (w := W') (a := ⟨w.heap.size + 1, 0, none⟩) (World.putObj_heap_other (by show w.heap.size + 1 ≠ D; omega))).trans (HR.out.cell rfl)
  ·exact ((HF.out.memo.below HBL.out hm4w).below (hbp _) hm4w).mono (Nat.le_succ _)
  ·exact But.of_below (HBL.out.trans (hbp _))

end Go.Proofs.YtmclbfkcbadnpaaGreat
