/-
  Walk: the law.
-/
import Derived.Test.YtlcjdmgjekkghaaWalkT
import Derived.Test.YtlcjdmgjekkghaaWalkN
import Derived.Deep.RegionHeld3
namespace Go.Proofs.Ytlcjdmgjekkghaa
open Go.RowKit

/-- the two cells that the last look reads -/
def TwoIn (b b0 : Nat) (a : Option Addr) (g len cap : Nat) (w : World) : Prop :=
  w.cell? ⟨b, 0, none⟩ = some (.slice a len cap) ∧ w.cell? ⟨b0, 0, none⟩ = some (.slice (some ⟨g, 0, none⟩) len len)

set_option maxHeartbeats 2000000 in
theorem law_any (ns : List P.Nd) (a : Option Addr) (cap : Nat) (w : World) (hin : SliceAt w a ns) (hcap : ns.length ≤ cap) (hc2 : cap * 48 ≤ 140737488351232) (hs : ∀ n ∈ ns, n.name.size ≤ maxLen ∧ n.value.size ≤ maxLen) :
    Calls Try.prog 3 #[.agg #[.slice a ns.length cap]] w fun e w' => e = .returned (.bool true) ∧ Below w.heap.size w w' := by
  have HI : Hid (SliceAt w a ns) := hin
  have HS : Hid (∀ n ∈ ns, n.name.size ≤ maxLen ∧ n.value.size ≤ maxLen) := hs
  clear hin hs
  go_enter Try.func3, Try.ntmps3
  go_wp2_with fail
  refine (szSelect_any ns a cap _ (HI.out.below (by go_grown)) hcap hc2 HS.out).mono ?_
  rintro e w1 ⟨r, rfl, hr, hb1⟩
  have hB1 : Below w.heap.size w w1 := ((Below.refl _ w).alloc (Nat.le_refl _) _).trans (hb1.mono (by simp))
  have hc1 : w1.cell? ⟨w.heap.size, 0, none⟩ = some (.slice a ns.length cap) := (hb1.cell (p := ⟨w.heap.size, 0, none⟩) (by simp)).trans (by simp)
  have hz1 : w.heap.size < w1.heap.size := by have := hb1.size; simp at this; omega
  clear hb1
  rcases hr with rfl | ⟨hr0, hr1, hsm⟩
  · go_wp2_with fail
    go_ret
    exact ⟨rfl, hB1⟩
  have HM : Hid (Small ns) := hsm
  have hl : ns.length ≤ 1048576 := hsm.1
  clear hsm
  go_wp2_with fail
  refine (toSelect_any ns a cap _ (HI.out.below hB1) hl).mono ?_
  rintro e w2 ⟨g1, rfl, _, hn2, hb2⟩
  have hc2 : w2.cell? ⟨w.heap.size, 0, none⟩ = some (.slice a ns.length cap) := (hb2.cell (p := ⟨w.heap.size, 0, none⟩) hz1).trans hc1
  have hz2 : w.heap.size < w2.heap.size := by have := hb2.size; omega
  have hB2 : Below w.heap.size w w2 := hB1.trans (hb2.mono (by omega))
  have HN2 : Hid (Nodes0 w2 g1 ns) := hn2
  clear hb2 hn2 hc1 hz1 hB1
  go_wp2_with fail
  refine (specPrint_any ns g1 _ HN2.out HM.out).mono ?_
  rintro e w3 ⟨rfl, hb3⟩
  have hc3 : w3.cell? ⟨w.heap.size, 0, none⟩ = some (.slice a ns.length cap) := (hb3.cell (p := ⟨w.heap.size, 0, none⟩) hz2).trans hc2
  have hz3 : w.heap.size < w3.heap.size := by have := hb3.size; omega
  have hB3 : Below w.heap.size w w3 := hB2.trans (hb3.mono (by omega))
  clear hb3 hc2 hz2 hB2 HN2
  go_wp2_with fail
  refine (toSelect_any ns a cap _ (HI.out.below hB3) hl).mono ?_
  rintro e w4 ⟨g2, rfl, _, hn4, hb4⟩
  have hc4 : w4.cell? ⟨w.heap.size, 0, none⟩ = some (.slice a ns.length cap) := (hb4.cell (p := ⟨w.heap.size, 0, none⟩) hz3).trans hc3
  have hz4 : w.heap.size < w4.heap.size := by have := hb4.size; omega
  have hB4 : Below w.heap.size w w4 := hB3.trans (hb4.mono (by omega))
  have HN4 : Hid (Nodes0 w4 g2 ns) := hn4
  clear hb4 hn4 hc3 hz3 hB3
  go_wp2_with fail
  refine (implPrint_any ns g2 _ (HN4.out.grown (by go_grown)) HM.out).mono ?_
  rintro e w5 ⟨rfl, hb5⟩
  have hc5 : w5.cell? ⟨w.heap.size, 0, none⟩ = some (.slice a ns.length cap) := (hb5.cell (p := ⟨w.heap.size, 0, none⟩) (by simp; omega)).trans (((bcell ((Below.refl w4.heap.size w4).alloc (Nat.le_refl _) _)).1 _ _ hz4).trans hc4)
  have hx5 : w5.cell? ⟨w4.heap.size, 0, none⟩ = some (.slice (some ⟨g2, 0, none⟩) ns.length ns.length) := (hb5.cell (p := ⟨w4.heap.size, 0, none⟩) (by simp)).trans (by simp)
  have hz5 : w4.heap.size < w5.heap.size := by have := hb5.size; simp at this; omega
  have hb45 : Below w4.heap.size w4 w5 := ((Below.refl _ w4).alloc (Nat.le_refl _) _).trans (hb5.mono (by simp))
  have HB5 : Hid (Below w.heap.size w w5) := hB4.trans (hb45.mono (by omega))
  have HN5 : Hid (Nodes0 w5 g2 ns) := HN4.out.grown hb45
  clear hb5 hb45 hc4 HN4 hB4
  generalize hO : P.outI ns = O at *
  clear hO
  go_wp2_with fail
  refine wp_region_held_drew (S := TwoIn w.heap.size w4.heap.size a g2 ns.length cap) (by kernel_rfl) ⟨by simpa using hc5, by simpa using hx5⟩ (fun hS => ?_)
  refine wpAnyH_take (i := 0) (oi := { dst := some 22, op := Op.load 29 (Operand.tmp 5), type := 29, pos := "exact.go:5692", after := #[], guard := none }) (v := .agg #[.slice (some ⟨g2, 0, none⟩) ns.length ns.length]) rfl (by kernel_rfl) (by kernel_rfl) (by kernel_rfl) (fun _ _ _ h => h) (Or.inl ⟨by rfl, ?_⟩) hS ?_
  · intro wy hy
    obtain ⟨y0, y1⟩ := hy
    go_simp
  simp only [Act.put, List.setIfInBounds_toArray, List.set_cons_zero, List.set_cons_succ]
  refine wpAnyH_take (i := 1) (oi := { dst := some 23, op := Op.load 24 (Operand.tmp 1), type := 24, pos := "exact.go:5692", after := #[], guard := none }) (v := .agg #[.slice a ns.length cap]) rfl (by kernel_rfl) (by kernel_rfl) (by kernel_rfl) (fun _ _ _ h => h) (Or.inl ⟨by rfl, ?_⟩) hS ?_
  · intro wy hy
    obtain ⟨y0, y1⟩ := hy
    go_simp
  simp only [Act.put, List.setIfInBounds_toArray, List.set_cons_zero, List.set_cons_succ]
  refine wpAnyH_ready (rs := [2]) (by kernel_rfl) (by simp) (AllReadyH.cons (o := { dst := some 24, op := Op.call { callee := Callee.value (Operand.func 6), args := #[Operand.tmp 23], argTypes := #[24] }, type := 29, pos := "exact.go:5692", after := #[{ on := 1, ground := Ground.data }], guard := none }) rfl (fun K hK => ?_) AllReadyH.nil)
  go_simp
  have hd : Below w.heap.size w w5.drew := HB5.out.drew
  refine (toSelect_any ns a cap _ (HI.out.below hd) hl).mono ?_
  rintro e w6 ⟨g3, rfl, _, hn6, hb6⟩
  have hd5 : Below w5.heap.size w5 w6 := (Below.refl _ w5).drew.trans hb6
  have HB6 : Hid (Below w.heap.size w w6) := HB5.out.trans (hd5.mono (by omega))
  have HN6 : Hid (Nodes0 w6 g2 ns) := HN5.out.grown hd5
  have HM6 : Hid (Nodes0 w6 g3 ns) := hn6
  refine hK.out _ _ ⟨(hd5.cell (p := ⟨w.heap.size, 0, none⟩) (by show w.heap.size < w5.heap.size; omega)).trans hc5, (hd5.cell (p := ⟨w4.heap.size, 0, none⟩) hz5).trans hx5⟩ (fun hS => ?_)
  clear hn6 hb6 hd5 hd
  clear hK K
  refine wpAnyH_ready (rs := [3]) (by kernel_rfl) (by simp) (AllReadyH.cons (o := { dst := some 25, op := Op.call { callee := Callee.value (Operand.func 8), args := #[Operand.tmp 22, Operand.tmp 24], argTypes := #[29, 29] }, type := 4, pos := "exact.go:5692", after := #[{ on := 0, ground := Ground.data }, { on := 2, ground := Ground.data }, { on := 2, ground := Ground.chain }], guard := none }) rfl (fun K hK => ?_) AllReadyH.nil)
  go_simp
  refine (eqSelect_any ns g2 g3 _ HN6.out HM6.out hl).mono ?_
  rintro e w7 ⟨rfl, hb7⟩
  have HB7 : Hid (Below w.heap.size w w7) := HB6.out.trans (hb7.mono HB6.out.size)
  refine hK.out _ _ ⟨(hb7.cell (p := ⟨w.heap.size, 0, none⟩) (block_lt_of_cell hS.1)).trans hS.1, (hb7.cell (p := ⟨w4.heap.size, 0, none⟩) (block_lt_of_cell hS.2)).trans hS.2⟩ (fun hS => ?_)
  clear hK K
  refine wpAnyH_take (i := 4) (oi := { dst := some 26, op := Op.unOp UnOp.not 4 (Operand.tmp 25), type := 4, pos := "exact.go:5692", after := #[{ on := 3, ground := Ground.data }], guard := none }) (v := .bool false) rfl (by kernel_rfl) (by kernel_rfl) (by kernel_rfl) (fun _ _ _ h => h) (Or.inl ⟨by rfl, ?_⟩) hS ?_
  · intro wy hy
    obtain ⟨y0, y1⟩ := hy
    go_simp
  simp only [Act.put, List.setIfInBounds_toArray, List.set_cons_zero, List.set_cons_succ]
  refine wpAnyH_done (by kernel_rfl) ?_ _
  go_wp2_with fail
  go_ret
  exact ⟨rfl, HB7.out⟩

end Go.Proofs.Ytlcjdmgjekkghaa
