/-
  Walk: the law FnExactPilotParse.
-/
import Derived.Test.YtohgbmjjiohjeaaDoorNds
namespace Go.Proofs.YtohgbmjjiohjeaaDoor
open Go.RowKit

theorem ErrLaid.below {w w' : World} {B : Nat} (h : ErrLaid w) (hb : Below B w w') (hB : 0 < B) : ErrLaid w' := (hb.cell (p := ⟨0, 0, none⟩) hB).trans h

theorem NdIn.below {w w' : World} {B : Nat} {a : Option Addr} {ns : List P.Nd} (h : NdIn w B a ns) (hb : Below w.heap.size w w') : NdIn w' B a ns := by
  rcases h with h | ⟨g, h1, h2, h3⟩
  · exact .inl h
  · exact .inr ⟨g, h1, h2, h3.grown hb⟩

theorem NdIn.keptA {w w' : World} {B B' : Nat} {a a' : Option Addr} {ns : List P.Nd} (h : NdIn w B a ns) (hk : KeptA w a' w') (hlt : ∀ g, a = some ⟨g, 0, none⟩ → g < B') (hne : ∀ g, a' = some ⟨g, 0, none⟩ → B' ≤ g) (hs : w.heap.size ≤ w'.heap.size) : NdIn w' B a ns := by
  rcases h with h | ⟨g, h1, h2, h3, h4⟩
  · exact .inl h
  · refine .inr ⟨g, h1, h2, Nat.lt_of_lt_of_le h3 hs, fun j n hj => ?_⟩
    have hx : ∀ o, ∀ g', a' = some ⟨g', 0, none⟩ → (⟨g, o, none⟩ : Addr).block ≠ g' := fun o g' e => by
      have := hlt g h1
      have := hne g' e
      show g ≠ g'
      omega
    obtain ⟨q0, q1, q2, q3⟩ := h4 j n hj
    exact ⟨hk _ _ q0 (hx _), hk _ _ q1 (hx _), hk _ _ q2 (hx _), hk _ _ q3 (hx _)⟩

theorem NdIn.lt {w : World} {B : Nat} {a : Option Addr} {ns : List P.Nd} (h : NdIn w B a ns) : ∀ g, a = some ⟨g, 0, none⟩ → g < w.heap.size := by
  intro g e
  rcases h with ⟨_, rfl⟩ | ⟨g', h1, _, h3⟩
  · cases e
  · rw [h1] at e; cases e; exact h3.1

theorem MayMark.ge {w : World} {B : Nat} {a : Option Addr} {n : Nat} (h : MayMark w B a n) : ∀ g, a = some ⟨g, 0, none⟩ → B ≤ g := by
  intro g e
  rcases h with ⟨rfl, _⟩ | ⟨g', h1, h2, _⟩
  · cases e
  · rw [h1] at e; cases e; exact h2

theorem MayMark.below {w w' : World} {B : Nat} {a : Option Addr} {n : Nat} (h : MayMark w B a n) (hb : Below w.heap.size w w') : MayMark w' B a n := by
  rcases h with h | ⟨g, h1, h2, h3, h4⟩
  · exact .inl h
  · exact .inr ⟨g, h1, h2, Nat.lt_of_lt_of_le h3 hb.size, ⟨(h4.below hb (Nat.le_of_lt h3)).th, fun j d hd hj => by omega, fun a u hc _ => hc, Below.refl _ _⟩⟩

set_option maxHeartbeats 4000000 in
set_option maxRecDepth 100000 in
theorem law_any (t : ByteArray) (w : World) (hm : t.size ≤ maxLen) (hg : ErrLaid w) :
    Calls Tryd.prog 3 #[.string t] w fun e w' => e = .returned (.bool true) ∧ Below w.heap.size w w' := by
  have HM : Hid (t.size ≤ maxLen) := hm
  have HG : Hid (ErrLaid w) := hg
  have hw0 : 0 < w.heap.size := block_lt_of_cell hg
  unfold maxLen at hm
  clear hg
  by_cases hbig : (1048576 : Int) < t.size
  · go_enter Tryd.func3, Tryd.ntmps3
    go_wp2_with fail
    go_ret
    exact ⟨rfl, by go_grown⟩
  obtain ⟨hl, hsm⟩ := nodes_small t
  have HSM : Hid (∀ n ∈ nodesOf t, n.name.size ≤ 20 ∧ n.value.size ≤ 20) := hsm
  clear hsm
  go_enter Tryd.func3, Tryd.ntmps3
  go_wp2_with fail
  refine (parse_any t _ HM.out).mono ?_
  rintro e w1 ⟨a, c, rfl, hn1, hb1⟩
  have HN1 : Hid (NdIn w1 w.heap.size a (nodesOf t)) := hn1
  have HB1 : Hid (Below w.heap.size w w1) := hb1
  have HW1 : Hid (w.heap.size ≤ w1.heap.size) := hb1.size
  clear hn1 hb1
  go_upto_region 4 with fail
  have hal : Below w1.heap.size w1 (w1.alloc (Obj.cells #[.slice a (nodesOf t).length c] 24)) := (Below.refl _ _).alloc (Nat.le_refl _) _
  have e3 : (w1.alloc (Obj.cells #[.slice a (nodesOf t).length c] 24)).cell? ⟨w1.heap.size, 0, none⟩ = some (.slice a (nodesOf t).length c) := by simp
  have HN2 : Hid (NdIn (w1.alloc (Obj.cells #[.slice a (nodesOf t).length c] 24)) w.heap.size a (nodesOf t)) := HN1.out.below hal
  have HB2 : Hid (Below w.heap.size w (w1.alloc (Obj.cells #[.slice a (nodesOf t).length c] 24))) := HB1.out.trans (hal.mono HB1.out.size)
  have E3 : Hid ((w1.alloc (Obj.cells #[.slice a (nodesOf t).length c] 24)).cell? ⟨w1.heap.size, 0, none⟩ = some (.slice a (nodesOf t).length c)) := e3
  have hlt1 : w1.heap.size < (w1.alloc (Obj.cells #[.slice a (nodesOf t).length c] 24)).heap.size := by simp
  clear hal e3 HN1 HB1
  generalize w1.alloc (Obj.cells #[.slice a (nodesOf t).length c] 24) = w2 at *
  go_wp2_with fail
  refine (implParse_any t _ HM.out (HG.out.below HB2.out hw0)).mono ?_
  rintro e w3 ⟨v, rfl, ho3, hb3⟩
  obtain ⟨b, d, rfl, hi3, hk3⟩ := own_parts ho3
  have HN3 : Hid (NdIn w3 w.heap.size a (nodesOf t)) := HN2.out.below hb3
  have HI3 : Hid (NdIn w3 w2.heap.size b (nodesOf t)) := hi3
  have HK3 : Hid (MayMark w3 w2.heap.size b (nodesOf t).length) := hk3
  have HB3 : Hid (Below w.heap.size w w3) := HB2.out.trans (hb3.mono HB2.out.size)
  have E3' : Hid (w3.cell? ⟨w1.heap.size, 0, none⟩ = some (.slice a (nodesOf t).length c)) := (hb3.cell (p := ⟨w1.heap.size, 0, none⟩) hlt1).trans E3.out
  have HLA : Hid (∀ g, a = some ⟨g, 0, none⟩ → g < w2.heap.size) := HN2.out.lt
  have hz23 : w2.heap.size ≤ w3.heap.size := hb3.size
  clear ho3 hb3 hi3 hk3 HN2 E3 HB2
  go_upto_region 5 with fail
  have hal : Below w3.heap.size w3 (w3.alloc (Obj.cells #[.slice b (nodesOf t).length d] 24)) := (Below.refl _ _).alloc (Nat.le_refl _) _
  have e5 : (w3.alloc (Obj.cells #[.slice b (nodesOf t).length d] 24)).cell? ⟨w3.heap.size, 0, none⟩ = some (.slice b (nodesOf t).length d) := by simp
  have e3 : (w3.alloc (Obj.cells #[.slice b (nodesOf t).length d] 24)).cell? ⟨w1.heap.size, 0, none⟩ = some (.slice a (nodesOf t).length c) := (hal.cell (p := ⟨w1.heap.size, 0, none⟩) (by show w1.heap.size < w3.heap.size; omega)).trans E3'.out
  have HN4 : Hid (NdIn (w3.alloc (Obj.cells #[.slice b (nodesOf t).length d] 24)) w.heap.size a (nodesOf t)) := HN3.out.below hal
  have HI4 : Hid (NdIn (w3.alloc (Obj.cells #[.slice b (nodesOf t).length d] 24)) w2.heap.size b (nodesOf t)) := HI3.out.below hal
  have HK4 : Hid (MayMark (w3.alloc (Obj.cells #[.slice b (nodesOf t).length d] 24)) w2.heap.size b (nodesOf t).length) := HK3.out.below hal
  have HB4 : Hid (Below w.heap.size w (w3.alloc (Obj.cells #[.slice b (nodesOf t).length d] 24))) := HB3.out.trans (hal.mono HB3.out.size)
  have HBL : Hid (∀ g, b = some ⟨g, 0, none⟩ → g < w3.heap.size) := HI3.out.lt
  have hz34 : w3.heap.size < (w3.alloc (Obj.cells #[.slice b (nodesOf t).length d] 24)).heap.size := by simp
  clear hal HN3 HI3 HK3 HB3 E3'
  generalize w3.alloc (Obj.cells #[.slice b (nodesOf t).length d] 24) = w4 at *
  have E3 : Hid (w4.cell? ⟨w1.heap.size, 0, none⟩ = some (.slice a (nodesOf t).length c)) := e3
  have E5 : Hid (w4.cell? ⟨w3.heap.size, 0, none⟩ = some (.slice b (nodesOf t).length d)) := e5
  have hzw2 : w.heap.size ≤ w2.heap.size := by
    have := HW1.out
    omega
  generalize hns : nodesOf t = ns at *
  have HNS : Hid (nodesOf t = ns) := hns
  generalize hcd : codeOf t = cd at *
  have HCD : Hid (codeOf t = cd) := hcd
  clear hns hcd
  go_wp2_with fail
  refine (eqSel_any ns b a d c w2.heap.size w.heap.size _ HI4.out HN4.out hl HSM.out).mono ?_
  rintro e w5 ⟨rfl, hb5⟩
  have HN5 : Hid (NdIn w5 w.heap.size a ns) := HN4.out.below hb5
  have HK5 : Hid (MayMark w5 w2.heap.size b ns.length) := HK4.out.below hb5
  have HB5 : Hid (Below w.heap.size w w5) := HB4.out.trans (hb5.mono HB4.out.size)
  have E35 : Hid (w5.cell? ⟨w1.heap.size, 0, none⟩ = some (.slice a ns.length c)) := (hb5.cell (p := ⟨w1.heap.size, 0, none⟩) (block_lt_of_cell E3.out)).trans E3.out
  have e5' : w5.cell? ⟨w3.heap.size, 0, none⟩ = some (.slice b ns.length d) := (hb5.cell (p := ⟨w3.heap.size, 0, none⟩) (block_lt_of_cell E5.out)).trans E5.out
  have E55 : Hid (w5.cell? ⟨w3.heap.size, 0, none⟩ = some (.slice b ns.length d)) := e5'
  have hz5 : w2.heap.size ≤ w5.heap.size := by have := hb5.size; omega
  clear hb5 HN4 HI4 HK4 HB4 E3 E5 e3 e5
  go_wp2_with fail
  refine (markSel_any b ns.length d w2.heap.size _ hl HK5.out hz5).mono ?_
  rintro e w6 ⟨rfl, hmk, hkp, hb6⟩
  have HM6 : Hid (Marked w6 b ns.length) := hmk
  have HN6 : Hid (NdIn w6 w.heap.size a ns) := HN5.out.keptA hkp HLA.out HK5.out.ge hb6.size
  have HB6 : Hid (Below w.heap.size w w6) := HB5.out.trans (hb6.mono hzw2)
  have E36 : Hid (w6.cell? ⟨w1.heap.size, 0, none⟩ = some (.slice a ns.length c)) := hkp _ _ E35.out (fun g e => by have := HK5.out.ge g e; show w1.heap.size ≠ g; omega)
  have e5'' : w6.cell? ⟨w3.heap.size, 0, none⟩ = some (.slice b ns.length d) := hkp _ _ E55.out (fun g e => by have := HBL.out g e; show w3.heap.size ≠ g; omega)
  have E56 : Hid (w6.cell? ⟨w3.heap.size, 0, none⟩ = some (.slice b ns.length d)) := e5''
  clear hmk hkp hb6 HN5 HK5 HB5 E35 E55 e5' hz5
  generalize hQ : 1 + 4 * ns.length = Q at *
  have HQ : Hid (1 + 4 * ns.length = Q) := hQ
  clear hQ
  go_wp2_with fail
  refine (heldSel_any b ns.length d _ hl HM6.out).mono ?_
  rintro e w7 ⟨rfl, hb7⟩
  rw [HQ.out]
  have HM7 : Hid (Marked w7 b ns.length) := HM6.out.below hb7
  have HN7 : Hid (NdIn w7 w.heap.size a ns) := HN6.out.below hb7
  have HB7 : Hid (Below w.heap.size w w7) := HB6.out.trans (hb7.mono HB6.out.size)
  have E37 : Hid (w7.cell? ⟨w1.heap.size, 0, none⟩ = some (.slice a ns.length c)) := (hb7.cell (p := ⟨w1.heap.size, 0, none⟩) (block_lt_of_cell E36.out)).trans E36.out
  have E57 : Hid (w7.cell? ⟨w3.heap.size, 0, none⟩ = some (.slice b ns.length d)) := (hb7.cell (p := ⟨w3.heap.size, 0, none⟩) (block_lt_of_cell E56.out)).trans E56.out
  clear hb7 HM6 HN6 HB6 E36 E56 e5''
  go_wp2_with fail
  refine (implParse_any t _ HM.out (HG.out.below HB7.out hw0)).mono ?_
  rintro e w8 ⟨v2, rfl, ho8, hb8⟩
  rw [HNS.out] at ho8
  rw [HCD.out]
  obtain ⟨b2, d2, rfl, hi8, _⟩ := own_parts ho8
  have HI8 : Hid (NdIn w8 w7.heap.size b2 ns) := hi8
  have HM8 : Hid (Marked w8 b ns.length) := HM7.out.below hb8
  have HN8 : Hid (NdIn w8 w.heap.size a ns) := HN7.out.below hb8
  have HB8 : Hid (Below w.heap.size w w8) := HB7.out.trans (hb8.mono HB7.out.size)
  have E38 : Hid (w8.cell? ⟨w1.heap.size, 0, none⟩ = some (.slice a ns.length c)) := (hb8.cell (p := ⟨w1.heap.size, 0, none⟩) (block_lt_of_cell E37.out)).trans E37.out
  have E58 : Hid (w8.cell? ⟨w3.heap.size, 0, none⟩ = some (.slice b ns.length d)) := (hb8.cell (p := ⟨w3.heap.size, 0, none⟩) (block_lt_of_cell E57.out)).trans E57.out
  clear ho8 hb8 hi8 HM7 HN7 HB7 E37 E57
  go_upto_region 16 with fail
  have hal : Below w8.heap.size w8 (w8.alloc (Obj.cells #[.slice b2 ns.length d2] 24)) := (Below.refl _ _).alloc (Nat.le_refl _) _
  have e9 : (w8.alloc (Obj.cells #[.slice b2 ns.length d2] 24)).cell? ⟨w8.heap.size, 0, none⟩ = some (.slice b2 ns.length d2) := by simp
  have e39 : (w8.alloc (Obj.cells #[.slice b2 ns.length d2] 24)).cell? ⟨w1.heap.size, 0, none⟩ = some (.slice a ns.length c) := (hal.cell (p := ⟨w1.heap.size, 0, none⟩) (block_lt_of_cell E38.out)).trans E38.out
  have E59 : Hid ((w8.alloc (Obj.cells #[.slice b2 ns.length d2] 24)).cell? ⟨w3.heap.size, 0, none⟩ = some (.slice b ns.length d)) := (hal.cell (p := ⟨w3.heap.size, 0, none⟩) (block_lt_of_cell E58.out)).trans E58.out
  have HI9 : Hid (NdIn (w8.alloc (Obj.cells #[.slice b2 ns.length d2] 24)) w7.heap.size b2 ns) := HI8.out.below hal
  have HN9 : Hid (NdIn (w8.alloc (Obj.cells #[.slice b2 ns.length d2] 24)) w.heap.size a ns) := HN8.out.below hal
  have HM9 : Hid (Marked (w8.alloc (Obj.cells #[.slice b2 ns.length d2] 24)) b ns.length) := HM8.out.below hal
  have HB9 : Hid (Below w.heap.size w (w8.alloc (Obj.cells #[.slice b2 ns.length d2] 24))) := HB8.out.trans (hal.mono HB8.out.size)
  clear hal HI8 HN8 HM8 HB8 E38 E58
  generalize w8.alloc (Obj.cells #[.slice b2 ns.length d2] 24) = w9 at *
  go_wp2_with fail
  refine (eqSel_any ns b2 a d2 c w7.heap.size w.heap.size _ HI9.out HN9.out hl HSM.out).mono ?_
  rintro e w10 ⟨rfl, hb10⟩
  have HM10 : Hid (Marked w10 b ns.length) := HM9.out.below hb10
  have HB10 : Hid (Below w.heap.size w w10) := HB9.out.trans (hb10.mono HB9.out.size)
  have e510 : w10.cell? ⟨w3.heap.size, 0, none⟩ = some (.slice b ns.length d) := (hb10.cell (p := ⟨w3.heap.size, 0, none⟩) (block_lt_of_cell E59.out)).trans E59.out
  clear hb10 HI9 HN9 HM9 HB9 E59 e9 e39
  go_wp2_with fail
  refine (heldSel_any b ns.length d _ hl HM10.out).mono ?_
  rintro e w11 ⟨rfl, hb11⟩
  rw [HQ.out]
  have HB11 : Hid (Below w.heap.size w w11) := HB10.out.trans (hb11.mono HB10.out.size)
  clear hb11 HM10 HB10 e510
  go_wp2_with fail
  go_ret
  exact ⟨rfl, HB11.out⟩

end Go.Proofs.YtohgbmjjiohjeaaDoor
