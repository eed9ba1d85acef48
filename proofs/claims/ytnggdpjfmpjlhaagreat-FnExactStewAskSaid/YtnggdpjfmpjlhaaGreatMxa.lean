import Derived.Test.YtnggdpjfmpjlhaaGreatTkw
import Derived.Test.YtnggdpjfmpjlhaaGreatJ23
import Derived.Deep.RegionHeld3
namespace Go.Proofs.YtnggdpjfmpjlhaaGreat
open Go.RowKit

structure AnsA (w : World) (g : Nat) (ns : List Nat) (ea : Nat → Option Addr) (ec : Nat → Nat) : Prop where
 lt : g < w.heap.size
 row : EnK w g 0 (ns.length * 8)
 sl : ∀ j n, ns[j]? = some n → w.cell? ⟨g, j * 8 + 6, none⟩ = some (.slice (ea j) n (ec j))
 en : ∀ j n, ns[j]? = some n → 0 < n → ∃ b o, ea j = some ⟨b, o, none⟩ ∧ b ≠ g ∧ EnK w b o (n * 2)
 ap : ∀ i j n m b p c q, i ≠ j → ns[i]? = some n → ns[j]? = some m → 0 < n → 0 < m → ea i = some ⟨b, p, none⟩ → ea j = some ⟨c, q, none⟩ → b ≠ c

theorem EnK.lt {w : World} {b o n : Nat} (h : EnK w b o n) (hn : 0 < n) : b < w.heap.size := by
 obtain ⟨u, hu⟩ := h.1 0 hn
 exact block_lt_of_cell hu
theorem EnK.below {w w' : World} {b o n : Nat} (h : EnK w b o n) (hb : Below w.heap.size w w') (hl : b < w.heap.size) : EnK w' b o n :=
 ⟨fun t ht => by obtain ⟨u, hu⟩ := h.1 t ht; exact ⟨u, (hb.cell (p := ⟨b, o + t, none⟩) hl).trans hu⟩, fun p => (World.frozen?_of_block (a := ⟨b, p, none⟩) (hb.block b hl)).trans (h.2 p)⟩
theorem EnK.bo {w w' : World} {b o n c : Nat} (h : EnK w b o n) (hb : Bo c w w') (hl : b < w.heap.size) (hn : b ≠ c) : EnK w' b o n :=
 ⟨fun t ht => by obtain ⟨u, hu⟩ := h.1 t ht; exact ⟨u, (hb.cell hl hn).trans hu⟩, fun p => (hb.frozen hl hn).trans (h.2 p)⟩

theorem AnsA.below {w w' : World} {g : Nat} {ns : List Nat} {ea : Nat → Option Addr} {ec : Nat → Nat} (h : AnsA w g ns ea ec) (hb : Below w.heap.size w w') : AnsA w' g ns ea ec := by
 have hg := h.lt
 refine ⟨Nat.lt_of_lt_of_le hg hb.size, h.row.below hb hg, fun j n hj => (hb.cell (p := ⟨g, j * 8 + 6, none⟩) hg).trans (h.sl j n hj), fun j n hj hn => ?_, h.ap⟩
 obtain ⟨b, o, e, hne, hk⟩ := h.en j n hj hn
 exact ⟨b, o, e, hne, hk.below hb (hk.lt (by omega))⟩

theorem AnsA.set {w : World} {g p : Nat} {ns : List Nat} {ea : Nat → Option Addr} {ec : Nat → Nat} (h : AnsA w g ns ea ec) (hp : ∀ j, p ≠ j * 8 + 6) (v : Value) : AnsA (w.setCell ⟨g, p, none⟩ v) g ns ea ec := by
 refine ⟨by simpa using h.lt, h.row.set v, fun j n hj => ?_, fun j n hj hn => ?_, h.ap⟩
 ·rw [World.cell?_setCell_other _ _ _ _ (fun h => by injection h with _ h _; exact absurd h (hp j))]
  exact h.sl j n hj
 ·obtain ⟨b, o, e, hne, hk⟩ := h.en j n hj hn
  have hbo : Bo g w (w.setCell ⟨g, p, none⟩ v) := (Bo.refl g w).set p v
  exact ⟨b, o, e, hne, hk.bo hbo (hk.lt (by omega)) hne⟩

theorem AnsA.bo {w w' : World} {g J n b o : Nat} {ns : List Nat} {ea : Nat → Option Addr} {ec : Nat → Nat} (h : AnsA w g ns ea ec) (hJ : ns[J]? = some n) (hn : 0 < n) (he : ea J = some ⟨b, o, none⟩) (hne : b ≠ g) (hb : Bo b w w') (hk : EnK w' b o (n * 2)) : AnsA w' g ns ea ec := by
 have hg := h.lt
 refine ⟨Nat.lt_of_lt_of_le hg hb.size, h.row.bo hb hg (fun e => hne e.symm), fun j m hj => (hb.cell hg (fun e => hne e.symm)).trans (h.sl j m hj), fun j m hj hm => ?_, h.ap⟩
 by_cases e : j = J
 ·subst e
  rw [hJ] at hj
  cases hj
  exact ⟨b, o, he, hne, hk⟩
 ·obtain ⟨c, q, e2, hne2, hk2⟩ := h.en j m hj hm
  exact ⟨c, q, e2, hne2, hk2.bo hb (hk2.lt (by omega)) (h.ap j J m n c q b o e hj hJ hm hn e2 he)⟩

def tT (k : Nat) (ns : List Nat) (j : Nat) : Nat := k + ((ns.take j).map (fun n => 7 + n * 2)).sum
theorem tT_succ {k j n : Nat} {ns : List Nat} (h : ns[j]? = some n) : tT k ns (j + 1) = tT k ns j + 7 + n * 2 := by
 unfold tT
 rw [List.take_add_one, h]
 simp
 omega

def mvA (t i : Nat) : Value := if i = 0 then .string (mtOf t) else if i = 5 then .bool (((t + 5 : Nat) : Int) % 3 == 0) else .int .i64 ((t + i : Nat) : Int)
def RowP (w : World) (g J t m : Nat) : Prop := ∀ i, i < m → w.cell? ⟨g, J * 8 + i, none⟩ = some (mvA t i)
theorem RowP.set {w : World} {g J t m p : Nat} {u v : Value} (h : RowP w g J t m) (hp : p = J * 8 + m) (c : w.cell? ⟨g, p, none⟩ = some u) (hv : v = mvA t m) : RowP (w.setCell ⟨g, p, none⟩ v) g J t (m + 1) := by
 subst hp hv
 intro i hi
 by_cases e : i = m
 ·subst e
  exact World.cell?_setCell_same _ _ _ c
 ·rw [World.cell?_setCell_other _ _ _ _ (fun h => by injection h with _ h _; omega)]
  exact h i (by omega)
theorem RowP.far {w : World} {g J t m p : Nat} (h : RowP w g J t m) (hp : ∀ i, i < m → p ≠ J * 8 + i) (v : Value) : RowP (w.setCell ⟨g, p, none⟩ v) g J t m := fun i hi => by
 rw [World.cell?_setCell_other _ _ _ _ (fun h => by injection h with _ h _; exact absurd h (hp i hi))]
 exact h i hi
theorem RowP.below {w w' : World} {g J t m : Nat} (h : RowP w g J t m) (hb : Below w.heap.size w w') : RowP w' g J t m := fun i hi => (hb.cell (p := ⟨g, J * 8 + i, none⟩) (block_lt_of_cell (h i hi))).trans (h i hi)
theorem RowP.bo {w w' : World} {g J t m b : Nat} (h : RowP w g J t m) (hb : Bo b w w') (hne : b ≠ g) : RowP w' g J t m := fun i hi => (hb.cell (block_lt_of_cell (h i hi)) (fun e => hne e.symm)).trans (h i hi)

structure RowM (w : World) (g j n : Nat) (a : Option Addr) (t : Nat) : Prop where
 c : RowP w g j t 6
 d : w.cell? ⟨g, j * 8 + 7, none⟩ = some (.bool (((t + 6 + n * 2 : Nat) : Int) % 3 == 0))
 e : 0 < n → ∃ b o, a = some ⟨b, o, none⟩ ∧ EnM w b o (n * 2) (t + 6)

def MkA (w : World) (g : Nat) (ns : List Nat) (ea : Nat → Option Addr) (k J : Nat) : Prop := ∀ j n, j < J → ns[j]? = some n → RowM w g j n (ea j) (tT k ns j)

theorem EnM.bo {w w' : World} {b o m k c : Nat} (h : EnM w b o m k) (hb : Bo c w w') (hne : b ≠ c) : EnM w' b o m k := fun t ht => (hb.cell (block_lt_of_cell (h t ht)) hne).trans (h t ht)

theorem MkA.below {w w' : World} {g : Nat} {ns : List Nat} {ea : Nat → Option Addr} {k J : Nat} (h : MkA w g ns ea k J) (hb : Below w.heap.size w w') : MkA w' g ns ea k J := fun j n hj hn => by
 have r := h j n hj hn
 exact ⟨r.c.below hb, (hb.cell (p := ⟨g, j * 8 + 7, none⟩) (block_lt_of_cell r.d)).trans r.d, fun h0 => by obtain ⟨b, o, e, hm⟩ := r.e h0; exact ⟨b, o, e, hm.below hb⟩⟩
theorem MkA.set {w : World} {g p : Nat} {ns : List Nat} {ea : Nat → Option Addr} {ec : Nat → Nat} {k J : Nat} (h : MkA w g ns ea k J) (hA : AnsA w g ns ea ec) (hp : J * 8 ≤ p) (v : Value) : MkA (w.setCell ⟨g, p, none⟩ v) g ns ea k J := fun j n hj hn => by
 have r := h j n hj hn
 refine ⟨r.c.far (fun i hi => by omega) v, ?_, fun h0 => ?_⟩
 ·rw [World.cell?_setCell_other _ _ _ _ (fun h => by injection h with _ h _; omega)]
  exact r.d
 ·obtain ⟨b, o, e, hm⟩ := r.e h0
  obtain ⟨b2, o2, e2, hne, _⟩ := hA.en j n hn h0
  rw [e] at e2
  cases e2
  exact ⟨b, o, e, hm.bo ((Bo.refl g w).set p v) hne⟩
theorem MkA.bo {w w' : World} {g b o n : Nat} {ns : List Nat} {ea : Nat → Option Addr} {ec : Nat → Nat} {k J : Nat} (h : MkA w g ns ea k J) (hA : AnsA w g ns ea ec) (hJ : ns[J]? = some n) (hn : 0 < n) (he : ea J = some ⟨b, o, none⟩) (hne : b ≠ g) (hb : Bo b w w') : MkA w' g ns ea k J := fun j m hj hm => by
 have r := h j m hj hm
 refine ⟨r.c.bo hb hne, (hb.cell (block_lt_of_cell r.d) (fun e => hne e.symm)).trans r.d, fun h0 => ?_⟩
 obtain ⟨c, q, e, hm2⟩ := r.e h0
 exact ⟨c, q, e, hm2.bo hb (hA.ap j J m n c q b o (by omega) hm hJ h0 hn e he)⟩

set_option maxHeartbeats 16000000 in
set_option maxRecDepth 100000 in
theorem markActs_any (g : Nat) (ns : List Nat) (ea : Nat → Option Addr) (ec : Nat → Nat) (cap k B : Nat) (w : World) (hA : AnsA w g ns ea ec) (h0 : 0 < k) (h1 : tT k ns ns.length ≤ 1000000) (hB : B ≤ g ∧ B ≤ w.heap.size ∧ ∀ j n b o, ns[j]? = some n → 0 < n → ea j = some ⟨b, o, none⟩ → B ≤ b) (hl : ns.length ≤ 1000) :
  Calls Tryz.prog 11 #[.slice (some ⟨g, 0, none⟩) ns.length cap, .int .i64 k] w fun e w' => e = .returned (.int .i64 ((tT k ns ns.length : Nat) : Int)) ∧ MkA w' g ns ea k ns.length ∧ Below B w w' ∧ ∀ j n, ns[j]? = some n → w'.cell? ⟨g, j * 8 + 6, none⟩ = some (.slice (ea j) n (ec j)) := by
 have HA := Hid.intro hA
 have HB := Hid.intro hB
 have HT : Hid (∀ j, j ≤ ns.length → tT k ns j ≤ tT k ns ns.length) := by
  intro j hj
  unfold tT
  have := sum_take_le (fun n => 7 + n * 2) ns j
  rw [List.take_length]
  omega
 clear hA hB
 go_enter Tryz.func11, Tryz.ntmps11
 go_wp2_with fail
 go_loopw [1, 5] (fun v i wr => ∃ j : Nat, j ≤ ns.length ∧ i = .int .i64 j ∧ v = .int .i64 ((tT k ns j : Nat) : Int) ∧ Hid (AnsA wr g ns ea ec) ∧ Hid (MkA wr g ns ea k j) ∧ Hid (Below B w wr)) (fun _ i _ => ns.length - (intOf i).toNat)
 case atStart => exact ⟨0, Nat.zero_le _, rfl, by simp [tT], HA, fun j n hj => absurd hj (by omega), Below.refl _ _⟩
 case round =>
  clear HA
  obtain ⟨J, hj, rfl, rfl, HA0, HM0, HL0⟩ := hrel
  by_cases hlt : J < ns.length
  case neg =>
   have hje : J = ns.length := by omega
   subst hje
   go_wp2_with fail
   go_ret
   exact ⟨rfl, HM0.out, HL0.out, HA0.out.sl⟩
  obtain ⟨n, hn⟩ : ∃ n, ns[J]? = some n := ⟨ns[J], List.getElem?_eq_getElem hlt⟩
  have HN := Hid.intro hn
  have HTS := Hid.intro (tT_succ (k := k) hn)
  have htb := HT.out (J + 1) (by omega)
  obtain ⟨t, ht⟩ : ∃ t, t = tT k ns J := ⟨_, rfl⟩
  have HTT := Hid.intro ht
  have htp : 0 < t := by rw [ht]; unfold tT; omega
  rw [← ht] at HTS ⊢
  have hte : t + 7 + n * 2 ≤ 1000000 := by have := HTS.out; omega
  clear hn ht
  have i0 : (0 : Int) ≤ (J : Int) := by omega
  have i1 : (J : Int) < (ns.length : Int) := by omega
  have HP0 : Hid (RowP wr g J t 0) := fun i hi => absurd hi (by omega)
  go_wp2_with fail
  refine (markText_any t _ htp (by omega)).mono ?_
  rintro e wt ⟨rfl, hb⟩
  have HA1 := Hid.intro (HA0.out.below hb)
  have HM1 := Hid.intro (HM0.out.below hb)
  have HL1 := Hid.intro (HL0.out.trans (hb.mono (by have := HL0.out.size; have := HB.out.2.1; omega)))
  have HP1 := Hid.intro (HP0.out.below hb)
  clear hb HA0 HM0 HL0 HP0
  obtain ⟨u0, d0⟩ := HA1.out.row.1 (J * 8 + 0) (by omega)
  rw [show 0 + (J * 8 + 0) = J * 8 by omega] at d0
  have z0 := HA1.out.row.2 (J * 8)
  have HP2 := Hid.intro (HP1.out.set (v := .string (mtOf t)) (p := J * 8) (by omega) d0 (rfl))
  have HM2 := Hid.intro (HM1.out.set HA1.out (p := J * 8) (by omega) (.string (mtOf t)))
  have HA2 := Hid.intro (HA1.out.set (p := J * 8) (by omega) (.string (mtOf t)))
  have HL2 : Hid (Below B w (wt.setCell ⟨g, J * 8, none⟩ (.string (mtOf t)))) := HL1.out.setCell HB.out.1 _
  go_upto_region 5 with fail
  clear d0 z0 HA1 HM1 HL1 HP1
  generalize wt.setCell ⟨g, J * 8, none⟩ (.string (mtOf t)) = w0 at *
  go_upto_region 6 with fail
  obtain ⟨y1, hy1⟩ : ∃ y : Int, y = ((t : Nat) : Int) + 1 := ⟨_, rfl⟩
  rw [← hy1]
  have HY1 : Hid (y1 = ((t + 1 : Nat) : Int)) := by show _ = _; omega
  have hyb1 : 0 < y1 ∧ y1 ≤ 1000000 := by have := HY1.out; omega
  clear hy1
  obtain ⟨u1, d1⟩ := HA2.out.row.1 (J * 8 + 1) (by omega)
  rw [show 0 + (J * 8 + 1) = J * 8 + 1 by omega] at d1
  have z1 := HA2.out.row.2 (J * 8 + 1)
  have HP3 := Hid.intro (HP2.out.set (v := .int .i64 y1) (p := J * 8 + 1) (by omega) d1 (by rw [HY1.out]; rfl))
  have HM3 := Hid.intro (HM2.out.set HA2.out (p := J * 8 + 1) (by omega) (.int .i64 y1))
  have HA3 := Hid.intro (HA2.out.set (p := J * 8 + 1) (by omega) (.int .i64 y1))
  have HL3 : Hid (Below B w (w0.setCell ⟨g, J * 8 + 1, none⟩ (.int .i64 y1))) := HL2.out.setCell HB.out.1 _
  go_upto_region 7 with fail
  clear d1 z1 HA2 HM2 HL2 HP2
  generalize w0.setCell ⟨g, J * 8 + 1, none⟩ (.int .i64 y1) = w1 at *
  go_upto_region 8 with fail
  obtain ⟨y2, hy2⟩ : ∃ y : Int, y = y1 + 1 := ⟨_, rfl⟩
  rw [← hy2]
  have HY2 : Hid (y2 = ((t + 2 : Nat) : Int)) := by show _ = _; have := HY1.out; omega
  have hyb2 : 0 < y2 ∧ y2 ≤ 1000000 := by have := HY2.out; omega
  clear hy2
  obtain ⟨u2, d2⟩ := HA3.out.row.1 (J * 8 + 2) (by omega)
  rw [show 0 + (J * 8 + 2) = J * 8 + 2 by omega] at d2
  have z2 := HA3.out.row.2 (J * 8 + 2)
  have HP4 := Hid.intro (HP3.out.set (v := .int .i64 y2) (p := J * 8 + 2) (by omega) d2 (by rw [HY2.out]; rfl))
  have HM4 := Hid.intro (HM3.out.set HA3.out (p := J * 8 + 2) (by omega) (.int .i64 y2))
  have HA4 := Hid.intro (HA3.out.set (p := J * 8 + 2) (by omega) (.int .i64 y2))
  have HL4 : Hid (Below B w (w1.setCell ⟨g, J * 8 + 2, none⟩ (.int .i64 y2))) := HL3.out.setCell HB.out.1 _
  go_upto_region 9 with fail
  clear d2 z2 HA3 HM3 HL3 HP3
  generalize w1.setCell ⟨g, J * 8 + 2, none⟩ (.int .i64 y2) = w2 at *
  go_upto_region 10 with fail
  obtain ⟨y3, hy3⟩ : ∃ y : Int, y = y2 + 1 := ⟨_, rfl⟩
  rw [← hy3]
  have HY3 : Hid (y3 = ((t + 3 : Nat) : Int)) := by show _ = _; have := HY2.out; omega
  have hyb3 : 0 < y3 ∧ y3 ≤ 1000000 := by have := HY3.out; omega
  clear hy3
  obtain ⟨u3, d3⟩ := HA4.out.row.1 (J * 8 + 3) (by omega)
  rw [show 0 + (J * 8 + 3) = J * 8 + 3 by omega] at d3
  have z3 := HA4.out.row.2 (J * 8 + 3)
  have HP5 := Hid.intro (HP4.out.set (v := .int .i64 y3) (p := J * 8 + 3) (by omega) d3 (by rw [HY3.out]; rfl))
  have HM5 := Hid.intro (HM4.out.set HA4.out (p := J * 8 + 3) (by omega) (.int .i64 y3))
  have HA5 := Hid.intro (HA4.out.set (p := J * 8 + 3) (by omega) (.int .i64 y3))
  have HL5 : Hid (Below B w (w2.setCell ⟨g, J * 8 + 3, none⟩ (.int .i64 y3))) := HL4.out.setCell HB.out.1 _
  go_upto_region 11 with fail
  clear d3 z3 HA4 HM4 HL4 HP4
  generalize w2.setCell ⟨g, J * 8 + 3, none⟩ (.int .i64 y3) = w3 at *
  go_upto_region 12 with fail
  obtain ⟨y4, hy4⟩ : ∃ y : Int, y = y3 + 1 := ⟨_, rfl⟩
  rw [← hy4]
  have HY4 : Hid (y4 = ((t + 4 : Nat) : Int)) := by show _ = _; have := HY3.out; omega
  have hyb4 : 0 < y4 ∧ y4 ≤ 1000000 := by have := HY4.out; omega
  clear hy4
  obtain ⟨u4, d4⟩ := HA5.out.row.1 (J * 8 + 4) (by omega)
  rw [show 0 + (J * 8 + 4) = J * 8 + 4 by omega] at d4
  have z4 := HA5.out.row.2 (J * 8 + 4)
  have HP6 := Hid.intro (HP5.out.set (v := .int .i64 y4) (p := J * 8 + 4) (by omega) d4 (by rw [HY4.out]; rfl))
  have HM6 := Hid.intro (HM5.out.set HA5.out (p := J * 8 + 4) (by omega) (.int .i64 y4))
  have HA6 := Hid.intro (HA5.out.set (p := J * 8 + 4) (by omega) (.int .i64 y4))
  have HL6 : Hid (Below B w (w3.setCell ⟨g, J * 8 + 4, none⟩ (.int .i64 y4))) := HL5.out.setCell HB.out.1 _
  go_upto_region 13 with fail
  clear d4 z4 HA5 HM5 HL5 HP5
  generalize w3.setCell ⟨g, J * 8 + 4, none⟩ (.int .i64 y4) = w4 at *
  go_upto_region 14 with fail
  obtain ⟨y5, hy5⟩ : ∃ y : Int, y = y4 + 1 := ⟨_, rfl⟩
  rw [← hy5]
  have HY5 : Hid (y5 = ((t + 5 : Nat) : Int)) := by show _ = _; have := HY4.out; omega
  have hyb5 : 0 < y5 ∧ y5 ≤ 1000000 := by have := HY5.out; omega
  clear hy5
  obtain ⟨u5, d5⟩ := HA6.out.row.1 (J * 8 + 5) (by omega)
  rw [show 0 + (J * 8 + 5) = J * 8 + 5 by omega] at d5
  have z5 := HA6.out.row.2 (J * 8 + 5)
  have HP7 := Hid.intro (HP6.out.set (v := .bool (y5 % 3 == 0)) (p := J * 8 + 5) (by omega) d5 (by rw [HY5.out]; rfl))
  have HM7 := Hid.intro (HM6.out.set HA6.out (p := J * 8 + 5) (by omega) (.bool (y5 % 3 == 0)))
  have HA7 := Hid.intro (HA6.out.set (p := J * 8 + 5) (by omega) (.bool (y5 % 3 == 0)))
  have HL7 : Hid (Below B w (w4.setCell ⟨g, J * 8 + 5, none⟩ (.bool (y5 % 3 == 0)))) := HL6.out.setCell HB.out.1 _
  go_upto_region 15 with fail
  clear d5 z5 HA6 HM6 HL6 HP6
  generalize w4.setCell ⟨g, J * 8 + 5, none⟩ (.bool (y5 % 3 == 0)) = w5 at *
  go_upto_region 16 with fail
  obtain ⟨y6, hy6⟩ : ∃ y : Int, y = y5 + 1 := ⟨_, rfl⟩
  rw [← hy6]
  have HY6 : Hid (y6 = ((t + 6 : Nat) : Int)) := by show _ = _; have := HY5.out; omega
  have hyb6 : 0 < y6 ∧ y6 ≤ 1000000 := by have := HY6.out; omega
  clear hy6
  have ks := HA7.out.sl J n HN.out
  go_cut [1] (fun p wz => p = .int .i64 ((t + 6 + n * 2 : Nat) : Int) ∧ Hid (AnsA wz g ns ea ec) ∧ Hid (MkA wz g ns ea k J) ∧ Hid (RowP wz g J t 6) ∧ Hid (0 < n → ∃ b o, ea J = some ⟨b, o, none⟩ ∧ EnM wz b o (n * 2) (t + 6)) ∧ Hid (Below B w wz))
  case first =>
   by_cases hn0 : n = 0
   ·rw [hn0] at ks
    go_wp2_with fail
    refine (markEnds0_any _ _ _ _).mono ?_
    rintro e wz ⟨rfl, rfl⟩
    go_wp2_with fail
    go_meet
    exact ⟨by rw [HY6.out, hn0], HA7, HM7, HP7, fun h => absurd h (by omega), HL7⟩
   ·obtain ⟨b, o, he, hne, hk⟩ := HA7.out.en J n HN.out (by omega)
    have HK := Hid.intro hk
    have HE := Hid.intro he
    rw [he] at ks
    clear hk he
    have hy6 : y6 = ((t + 6 : Nat) : Int) := HY6.out
    rw [hy6]
    clear hy6
    go_wp2_with fail
    refine (markEnds_any b o n _ (t + 6) _ HK.out (by omega) (by omega)).mono ?_
    rintro e wz ⟨rfl, hm, hk2, hbo⟩
    have A2 := Hid.intro (HA7.out.bo HN.out (by omega) HE.out hne hbo hk2)
    have M2 := Hid.intro (HM7.out.bo HA7.out HN.out (by omega) HE.out hne hbo)
    have P2 := Hid.intro (HP7.out.bo hbo hne)
    have L2 : Hid (Below B w wz) := HL7.out.trans (hbo.belowB (HB.out.2.2 J n b o HN.out (by omega) HE.out) (by have := HL7.out.size; have := HB.out.2.1; omega))
    have E2 := Hid.intro hm
    clear hm hk2 hbo
    go_wp2_with fail
    go_meet
    exact ⟨rfl, A2, M2, P2, fun _ => ⟨b, o, HE.out, E2.out⟩, L2⟩
  case rest =>
   obtain ⟨rfl, A7, M7, P7, E7, L7⟩ := hcut
   clear HA7 HM7 HP7 HL7 ks
   generalize wc = w7 at *
   obtain ⟨y7, hy7⟩ : ∃ y : Int, y = ((t + 6 + n * 2 : Nat) : Int) := ⟨_, rfl⟩
   rw [← hy7]
   have HY7 := Hid.intro hy7
   have hyb7 : 0 < y7 ∧ y7 ≤ 1000000 := by omega
   clear hy7
   obtain ⟨u7, d7⟩ := A7.out.row.1 (J * 8 + 7) (by omega)
   rw [show 0 + (J * 8 + 7) = J * 8 + 7 by omega] at d7
   have z7 := A7.out.row.2 (J * 8 + 7)
   have M8 := Hid.intro (M7.out.set A7.out (p := J * 8 + 7) (by omega) (.bool (y7 % 3 == 0)))
   have A8 := Hid.intro (A7.out.set (p := J * 8 + 7) (by omega) (.bool (y7 % 3 == 0)))
   have P8 := Hid.intro (P7.out.far (p := J * 8 + 7) (by omega) (.bool (y7 % 3 == 0)))
   have L8 : Hid (Below B w (w7.setCell ⟨g, J * 8 + 7, none⟩ (.bool (y7 % 3 == 0)))) := L7.out.setCell HB.out.1 _
   have D8 : Hid ((w7.setCell ⟨g, J * 8 + 7, none⟩ (.bool (y7 % 3 == 0))).cell? ⟨g, J * 8 + 7, none⟩ = some (.bool (y7 % 3 == 0))) := World.cell?_setCell_same _ _ _ d7
   have E8 : Hid (0 < n → ∃ b o, ea J = some ⟨b, o, none⟩ ∧ EnM (w7.setCell ⟨g, J * 8 + 7, none⟩ (.bool (y7 % 3 == 0))) b o (n * 2) (t + 6)) := by
    intro hn0
    obtain ⟨b, o, e, hm⟩ := E7.out hn0
    obtain ⟨b2, o2, e2, hne, _⟩ := A7.out.en J n HN.out hn0
    rw [e] at e2
    cases e2
    exact ⟨b, o, e, hm.bo ((Bo.refl g w7).set _ _) hne⟩
   go_upto_region 18 with fail
   clear d7 z7 A7 M7 P7 E7 L7
   generalize w7.setCell ⟨g, J * 8 + 7, none⟩ (.bool (y7 % 3 == 0)) = w8 at *
   have HMN : Hid (MkA w8 g ns ea k (J + 1)) := by
    intro j m hj hm
    by_cases e : j = J
    ·subst e
     rw [HN.out] at hm
     cases hm
     rw [← HTT.out]
     exact ⟨P8.out, by rw [← HY7.out]; exact D8.out, E8.out⟩
    ·exact M8.out j m (by omega) hm
   have HYE : Hid (y7 + 1 = ((tT k ns (J + 1) : Nat) : Int)) := by show _ = _; have := HY7.out; have := HTS.out; omega
   go_wp2_with fail
   go_roundw
   case rel => exact ⟨J + 1, by omega, by go_num, by rw [← HYE.out], A8, HMN, L8⟩
   case measure => simp [intOf]; omega

set_option maxHeartbeats 16000000 in
set_option maxRecDepth 100000 in
theorem heldActs_any (g : Nat) (ns : List Nat) (ea : Nat → Option Addr) (ec : Nat → Nat) (cap k : Nat) (w : World) (hM : MkA w g ns ea k ns.length) (hA : ∀ j n, ns[j]? = some n → w.cell? ⟨g, j * 8 + 6, none⟩ = some (.slice (ea j) n (ec j))) (h0 : 0 < k) (h1 : tT k ns ns.length ≤ 1000000) (hl : ns.length ≤ 1000) :
  Calls Tryz.prog 12 #[.slice (some ⟨g, 0, none⟩) ns.length cap, .int .i64 k] w fun e w' => e = .returned (.int .i64 ((tT k ns ns.length : Nat) : Int)) ∧ Below w.heap.size w w' := by
 have HM := Hid.intro hM
 have HS := Hid.intro hA
 have HT : Hid (∀ j, j ≤ ns.length → tT k ns j ≤ tT k ns ns.length) := by
  intro j hj
  unfold tT
  have := sum_take_le (fun n => 7 + n * 2) ns j
  rw [List.take_length]
  omega
 clear hM hA
 go_enter Tryz.func12, Tryz.ntmps12
 go_wp2_with fail
 go_loopw [1, 5] (fun v i wr => ∃ j : Nat, j ≤ ns.length ∧ i = .int .i64 j ∧ v = .int .i64 ((tT k ns j : Nat) : Int) ∧ Hid (Below w.heap.size w wr)) (fun _ i _ => ns.length - (intOf i).toNat)
 case atStart => exact ⟨0, Nat.zero_le _, rfl, by simp [tT], Below.refl _ _⟩
 case round =>
  obtain ⟨J, hj, rfl, rfl, HL0⟩ := hrel
  by_cases hlt : J < ns.length
  case neg =>
   have hje : J = ns.length := by omega
   subst hje
   go_wp2_with fail
   go_ret
   exact ⟨rfl, HL0.out⟩
  obtain ⟨n, hn⟩ : ∃ n, ns[J]? = some n := ⟨ns[J], List.getElem?_eq_getElem hlt⟩
  have HTS := Hid.intro (tT_succ (k := k) hn)
  have htb := HT.out (J + 1) (by omega)
  have hR := HM.out J n hlt hn
  have hS := HS.out J n hn
  obtain ⟨t, ht⟩ : ∃ t, t = tT k ns J := ⟨_, rfl⟩
  have htp : 0 < t := by rw [ht]; unfold tT; omega
  rw [← ht] at HTS hR ⊢
  have hte : t + 7 + n * 2 ≤ 1000000 := by have := HTS.out; omega
  clear hn ht
  have i0 : (0 : Int) ≤ (J : Int) := by omega
  have i1 : (J : Int) < (ns.length : Int) := by omega
  have HR := Hid.intro hR
  have HSL : Hid (w.cell? ⟨g, J * 8 + 6, none⟩ = some (.slice (ea J) n (ec J))) := hS
  have hgl : g < w.heap.size := block_lt_of_cell hS
  clear hR hS
  have HC0 : Hid (∀ wz, Below w.heap.size w wz → wz.cell? ⟨g, J * 8, none⟩ = some (.string (mtOf t))) := fun wz hb => (hb.cell (p := ⟨g, J * 8, none⟩) hgl).trans (by have := HR.out.c 0 (by omega); simpa [mvA] using this)
  go_upto_region 4 with fail
  refine wp_region_held_drew (S := fun wy => wy.cell? ⟨g, J * 8, none⟩ = some (.string (mtOf t))) (by kernel_rfl) (HC0.out _ HL0.out.drew) (fun hS => ?_)
  have HLd : Hid (Below w.heap.size w wr.drew) := HL0.out.drew
  clear HL0
  generalize wr.drew = wd at *
  refine tz 0 12 (.slice (some ⟨g, 0, none⟩) ns.length cap) rfl hS ?_
  simp only [pA,pB,pC,pD]
  refine tz 1 13 (.int .i64 J) rfl hS ?_
  simp only [pA,pB,pC,pD]
  refine ty 2 ⟨some 14, _, _, _, _, none⟩ (.pointer (some ⟨g, J * 8, none⟩)) rfl (by rfl) ?_ hS ?_
  ·intro wy hy
   clear hy
   first | (go_simp; done) | (go_simp; omega) | (go_simp; intro hh; omega)
  simp only [pA,pB,pC,pD]
  refine tz 3 15 (.pointer (some ⟨g, J * 8, none⟩)) rfl hS ?_
  simp only [pA,pB,pC,pD]
  refine ty 4 ⟨some 16, _, _, _, _, none⟩ (.string (mtOf t)) rfl (by rfl) ?_ hS ?_
  ·intro wy hy
   have h0 := hy
   clear hy
   go_simp
  simp only [pA,pB,pC,pD]
  refine tz 5 17 (.int .i64 ((t : Nat) : Int)) rfl hS ?_
  simp only [pA,pB,pC,pD]
  refine rd1 6 ⟨some 18, _, _, _, _, none⟩ rfl (fun K hK => ?_)
  go_simp
  refine (markText_any t _ htp (by omega)).mono ?_
  rintro e wt ⟨rfl, hb⟩
  have HLt : Hid (Below w.heap.size w wt) := HLd.out.trans (hb.mono HLd.out.size)
  clear HLd
  refine hK.out _ _ (HC0.out _ HLt.out) (fun hS => ?_)
  clear hK K
  clear hb
  refine tz 7 19 (.bool false) rfl hS ?_
  simp only [pA,pB,pC,pD]
  refine wpAnyH_done (by kernel_rfl) ?_ _
  clear hS
  have c1 : wt.cell? ⟨g, J * 8 + 1, none⟩ = some (.int .i64 ((t + 1 : Nat) : Int)) := (HLt.out.cell (p := ⟨g, J * 8 + 1, none⟩) hgl).trans (by have := HR.out.c 1 (by omega); simpa [mvA] using this)
  have c2 : wt.cell? ⟨g, J * 8 + 2, none⟩ = some (.int .i64 ((t + 2 : Nat) : Int)) := (HLt.out.cell (p := ⟨g, J * 8 + 2, none⟩) hgl).trans (by have := HR.out.c 2 (by omega); simpa [mvA] using this)
  have c3 : wt.cell? ⟨g, J * 8 + 3, none⟩ = some (.int .i64 ((t + 3 : Nat) : Int)) := (HLt.out.cell (p := ⟨g, J * 8 + 3, none⟩) hgl).trans (by have := HR.out.c 3 (by omega); simpa [mvA] using this)
  have c4 : wt.cell? ⟨g, J * 8 + 4, none⟩ = some (.int .i64 ((t + 4 : Nat) : Int)) := (HLt.out.cell (p := ⟨g, J * 8 + 4, none⟩) hgl).trans (by have := HR.out.c 4 (by omega); simpa [mvA] using this)
  have c5 : wt.cell? ⟨g, J * 8 + 5, none⟩ = some (.bool (((t + 5 : Nat) : Int) % 3 == 0)) := (HLt.out.cell (p := ⟨g, J * 8 + 5, none⟩) hgl).trans (by have := HR.out.c 5 (by omega); simpa [mvA] using this)
  have c6 : wt.cell? ⟨g, J * 8 + 6, none⟩ = some (.slice (ea J) n (ec J)) := (HLt.out.cell (p := ⟨g, J * 8 + 6, none⟩) hgl).trans HSL.out
  have c7 : wt.cell? ⟨g, J * 8 + 7, none⟩ = some (.bool (((t + 6 + n * 2 : Nat) : Int) % 3 == 0)) := (HLt.out.cell (p := ⟨g, J * 8 + 7, none⟩) hgl).trans HR.out.d
  obtain ⟨y1, hy1⟩ : ∃ y : Int, y = ((t + 1 : Nat) : Int) := ⟨_, rfl⟩
  rw [← hy1] at c1
  obtain ⟨y2, hy2⟩ : ∃ y : Int, y = ((t + 2 : Nat) : Int) := ⟨_, rfl⟩
  rw [← hy2] at c2
  obtain ⟨y3, hy3⟩ : ∃ y : Int, y = ((t + 3 : Nat) : Int) := ⟨_, rfl⟩
  rw [← hy3] at c3
  obtain ⟨y4, hy4⟩ : ∃ y : Int, y = ((t + 4 : Nat) : Int) := ⟨_, rfl⟩
  rw [← hy4] at c4
  obtain ⟨y5, hy5⟩ : ∃ y : Int, y = ((t + 5 : Nat) : Int) := ⟨_, rfl⟩
  rw [← hy5] at c5
  obtain ⟨y6, hy6⟩ : ∃ y : Int, y = ((t + 6 : Nat) : Int) := ⟨_, rfl⟩
  have s1 : ((t : Nat) : Int) + 1 = y1 := by omega
  have s2 : y1 + 1 = y2 := by omega
  have s3 : y2 + 1 = y3 := by omega
  have s4 : y3 + 1 = y4 := by omega
  have s5 : y4 + 1 = y5 := by omega
  have s6 : y5 + 1 = y6 := by omega
  have hyb : 0 < y1 ∧ y1 ≤ 1000000 ∧ 0 < y2 ∧ y2 ≤ 1000000 ∧ 0 < y3 ∧ y3 ≤ 1000000 ∧ 0 < y4 ∧ y4 ≤ 1000000 ∧ 0 < y5 ∧ y5 ≤ 1000000 ∧ 0 < y6 ∧ y6 ≤ 1000000 := by omega
  have HY6 := Hid.intro hy6
  clear hy1 hy2 hy3 hy4 hy5 hy6
  go_upto_region 7 with fail
  try rw [s1]
  go_upto_region 10 with fail
  try rw [s2]
  go_upto_region 13 with fail
  try rw [s3]
  go_upto_region 16 with fail
  try rw [s4]
  go_upto_region 19 with fail
  try rw [s5]
  go_upto_region 22 with fail
  try rw [s6]
  clear c1 c2 c3 c4 c5 s1 s2 s3 s4 s5 s6
  go_cut [1] (fun p wz => p = .int .i64 ((t + 6 + n * 2 : Nat) : Int) ∧ wz = wt)
  case first =>
   by_cases hn0 : n = 0
   ·rw [hn0] at c6
    go_wp2_with fail
    refine (heldEnds0_any _ _ _ _).mono ?_
    rintro e wz ⟨rfl, rfl⟩
    go_wp2_with fail
    go_meet
    exact ⟨by rw [HY6.out, hn0], rfl⟩
   ·obtain ⟨b, o, he, hm⟩ := HR.out.e (by omega)
    have HE2 := Hid.intro (hm.below HLt.out)
    rw [he] at c6
    clear hm he
    have hy6 : y6 = ((t + 6 : Nat) : Int) := HY6.out
    rw [hy6]
    clear hy6
    go_wp2_with fail
    refine (heldEnds_any b o n _ (t + 6) _ HE2.out (by omega) (by omega)).mono ?_
    rintro e wz ⟨rfl, rfl⟩
    go_wp2_with fail
    go_meet
    exact ⟨rfl, rfl⟩
  case rest =>
   obtain ⟨rfl, hwc⟩ := hcut
   rw [hwc]
   clear hwc c6
   obtain ⟨y7, hy7⟩ : ∃ y : Int, y = ((t + 6 + n * 2 : Nat) : Int) := ⟨_, rfl⟩
   rw [← hy7] at c7 ⊢
   have HYE : Hid (y7 + 1 = ((tT k ns (J + 1) : Nat) : Int)) := by show _ = _; have := HTS.out; omega
   have hyb7 : 0 < y7 ∧ y7 ≤ 1000000 := by omega
   have hyn : 0 ≤ y7 := by omega
   clear hy7
   go_wp2_with fail
   go_roundw
   case rel => exact ⟨J + 1, by omega, by go_num, by rw [← HYE.out], HLt⟩
   case measure => simp [intOf]; omega

end Go.Proofs.YtnggdpjfmpjlhaaGreat
