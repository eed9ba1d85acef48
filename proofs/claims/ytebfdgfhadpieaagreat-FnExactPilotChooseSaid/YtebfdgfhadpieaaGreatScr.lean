import Derived.Test.YtebfdgfhadpieaaGreatJ44
namespace Go.Proofs.YtebfdgfhadpieaaGreat
open Go.RowKit Go.WideMaps Go.Maps
attribute [local go_sem] Oper.semAt_some
theorem wp_normal {P : Program} {c : Code} {Q : Exit → Act → World → Prop} {a : Act} {w : World} (h : c.wp P (fun e a' w' => e = Exit.normal ∧ Q Exit.normal a' w') a w) : c.wp P Q a w :=
 Code.wp_mono (by rintro e a w ⟨rfl, h⟩; exact h) h
abbrev outZ (L0 f : Int) (z nm : ByteArray) (xs : List StX) : Array Value := #[.int .i64 L0, .int .i64 ((cntZ z xs : Nat) : Int), .int .i64 ((cntN nm xs : Nat) : Int), .int .i64 f]
abbrev brA (s : StX) : Array Value := #[.string s.b.name, .string s.b.zone, .slice s.am s.b.marks.length s.cm, .int .i64 s.b.room, .int .i64 s.b.hold, .bool s.b.closed]
set_option maxHeartbeats 2000000 in
set_option maxRecDepth 100000 in
theorem score_any (p m1 m2 m3 m4 ci bi : Nat) (x : Flt) (a1 : Option Addr) (c1 : Nat) (a2 : Option Addr) (c2 : Nat) (a3 : Option Addr) (c3 : Nat) (y : Cpy) (a7 : Option Addr) (c7 : Nat) (b : Brt) (am : Option Addr) (cm : Nat) (u1 u2 u3 : Int) (lo : Nat) (W w : World) (hW : Below W.heap.size W w) (n : Nat) (hn : n ≤ 900) (hf : FoundM p m1 m2 m3 m4 n x a1 c1 a2 c2 a3 c3 w) (hp : W.heap.size ≤ p) (hm4 : W.heap.size ≤ m4) (n1 : SliceC BrtC 6 lo W a1 x.berths) (n3 : SliceC CpyC 12 lo W a3 x.copies) (n7 : SliceC LikC 2 lo W a7 y.likes) (nm : SliceC StrC 1 lo W am b.marks) (hv : validI x = true) (hy : x.copies[ci]? = some y) (hb : x.berths[bi]? = some b) (hu : u2 = roomTo x ci b.name x.copies.length) :
  Calls Tryz.prog 80 #[.agg (spotA p ci bi y a7 c7 b am cm u1 u2 u3)] w fun e w' => e = .returned (.agg (scoreA x ci y b)) ∧ MemoAt m4 (n + 5) x.berths w' ∧ But m4 w.heap.size w w' := by
 obtain ⟨_, l3, _, _, _, _⟩ := valid_parts hv
 obtain ⟨_, _, hbr, hcp⟩ := valid_more hv
 have hrb := roomTo_bd ci b.name (fun k c h => (hcp k c h).1) x.copies.length
 obtain ⟨hu0, hu1⟩ : 0 ≤ u2 ∧ u2 ≤ 60000 := by rw [hu]; omega
 obtain ⟨⟨hy0, hy1⟩, hlk, _⟩ := hcp ci y hy
 obtain ⟨hll, hlw⟩ := likes_parts hlk
 obtain ⟨hbn, hbz, ⟨hb0, hb1⟩, hmk⟩ := hbr bi b hb
 have HBN := iH (name_ne hbn)
 have HW := iH hW
 have HF := iH hf
 have N1 := iH n1
 have N3 := iH n3
 have N7 := iH n7
 have NM := iH nm
 have HV := iH hv
 have HY := iH hy
 have HB := iH hb
 have HU := iH hu
 have HLW := iH hlw
 have HZ := iH (name_short hbz)
 have HMK := iH (marks_few hmk)
 clear hbn
 clear hW hf n1 n3 n7 nm hv hy hb hu hlw hbz hmk hbr hcp hrb hlk
 refine (callsIn_wide (n := 7)).1 ?_
 refine callsIn_of_wp_marks Tryz.func80 rfl trivial ?_ rfl
 refine wpIn_wide.2 ?_
 simp only [Tryz.ntmps80, List.size_toArray, List.length_cons, List.length_nil, Nat.reduceAdd, Nat.reduceSub, Array.replicate_succ, Array.replicate_zero, List.push_toArray, List.append_toArray, List.nil_append, List.cons_append]
 go_upto_region 1 with fail
 have e0 : Blk w.heap.size (spotA p ci bi y a7 c7 b am cm u1 u2 u3) 131 ((w.alloc (Obj.cells (spotA p ci bi y a7 c7 b am cm u1 u2 u3) 131)).alloc (Obj.cells #[.int .i64 0, .int .i64 0, .int .i64 0, .int .i64 0] 84)) := (Blk.alloc w (spotA p ci bi y a7 c7 b am cm u1 u2 u3) 131).below ((Below.refl _ _).alloc nL _) (Blk.alloc w (spotA p ci bi y a7 c7 b am cm u1 u2 u3) 131).lt
 have e1 : Blk (w.heap.size + 1) #[.int .i64 0, .int .i64 0, .int .i64 0, .int .i64 0] 84 ((w.alloc (Obj.cells (spotA p ci bi y a7 c7 b am cm u1 u2 u3) 131)).alloc (Obj.cells #[.int .i64 0, .int .i64 0, .int .i64 0, .int .i64 0] 84)) := by
  have h := Blk.alloc (w.alloc (Obj.cells (spotA p ci bi y a7 c7 b am cm u1 u2 u3) 131)) #[.int .i64 0, .int .i64 0, .int .i64 0, .int .i64 0] 84
  simpa using h
 have e2 : Below w.heap.size w ((w.alloc (Obj.cells (spotA p ci bi y a7 c7 b am cm u1 u2 u3) 131)).alloc (Obj.cells #[.int .i64 0, .int .i64 0, .int .i64 0, .int .i64 0] 84)) := ((Below.refl _ w).alloc nL _).alloc (by simp) _
 have HS1 := iH e0
 have HZ1 := iH e1
 have HB1 := iH e2
 clear e0 e1 e2
 generalize ((w.alloc (Obj.cells (spotA p ci bi y a7 c7 b am cm u1 u2 u3) 131)).alloc (Obj.cells #[.int .i64 0, .int .i64 0, .int .i64 0, .int .i64 0] 84)) = w1 at *
 have hm4w : m4 < w.heap.size := HF.out.memo.lt
 have hpm : p ≠ m4 := HF.out.2.2.2.2.2.2.1
 have hbi : bi ≤ 1048576 := by have := lt_of_some HB.out; have := (valid_more HV.out).1; omega
 have HF1 := iH (HF.out.below HB1.out)
 have HW1 : Hid (Below W.heap.size W w1) := HW.out.trans (HB1.out.mono HW.out.size)
 have hsz1 : w.heap.size + 1 < w1.heap.size := HZ1.out.lt
 obtain ⟨L0, hL0⟩ : ∃ L0, L0 = (likeTo (fun t => asksI t b.marks b.zone) y.likes y.likes.length) := ⟨_, rfl⟩
 have HL0 := iH hL0
 clear hL0
 refine wp_normal ?_
 refine wp_region_held_drew (S := fun wy => wy.rangeAt w.heap.size 0 (spotA p ci bi y a7 c7 b am cm u1 u2 u3).toList) (by kernel_rfl) (range_drew HS1.out.rangeA) (fun hS => ?_)
 refine tz 0 6 (.pointer (some ⟨w.heap.size, 2, none⟩)) rfl hS ?_
 simp only [pA,pB,pC,pD]
 refine tz 1 7 (.pointer (some ⟨w.heap.size, 9, none⟩)) rfl hS ?_
 simp only [pA,pB,pC,pD]
 refine ty 2 ⟨some 8, _, _, _, _, none⟩ (.slice a7 y.likes.length c7) rfl (by rfl) ?_ hS ?_
 ·intro wy hy
  have c9 : wy.cell? ⟨w.heap.size, 9, none⟩ = some (.slice a7 y.likes.length c7) := by simpa using hy 9 _ rfl
  clear hy
  go_simp
 simp only [pA,pB,pC,pD]
 refine tk 3 ⟨some 9, _, _, _, _, none⟩ (.agg (spotA p ci bi y a7 c7 b am cm u1 u2 u3)) rfl (yieldsIf_load_mid rfl 131 (.tmp 1) rfl w.heap.size 0 rfl (spotA p ci bi y a7 c7 b am cm u1 u2 u3).toList _ (fun _ h => h) Tryz.underlying131 rfl isz_Spot) hS ?_
 simp only [pA,pB,pC,pD]
 refine tz 4 10 (.func (.func 103) #[.agg (spotA p ci bi y a7 c7 b am cm u1 u2 u3)] #[]) rfl hS ?_
 simp only [pA,pB,pC,pD]
 refine ty 6 ⟨some 12, _, _, _, _, none⟩ (.pointer (some ⟨w.heap.size, 15, none⟩)) rfl (by rfl) ?_ hS ?_
 ·intro wy hy
  have c18 : wy.cell? ⟨w.heap.size, 18, none⟩ = some (.int .i64 b.room) := by simpa using hy 18 _ rfl
  have c22 : wy.cell? ⟨w.heap.size, 22, none⟩ = some (.int .i64 u2) := by simpa using hy 22 _ rfl
  have c6 : wy.cell? ⟨w.heap.size, 6, none⟩ = some (.int .i64 y.room) := by simpa using hy 6 _ rfl
  clear hy
  go_simp
 simp only [pA,pB,pC,pD]
 refine ty 7 ⟨some 13, _, _, _, _, none⟩ (.pointer (some ⟨w.heap.size, 18, none⟩)) rfl (by rfl) ?_ hS ?_
 ·intro wy hy
  have c18 : wy.cell? ⟨w.heap.size, 18, none⟩ = some (.int .i64 b.room) := by simpa using hy 18 _ rfl
  have c22 : wy.cell? ⟨w.heap.size, 22, none⟩ = some (.int .i64 u2) := by simpa using hy 22 _ rfl
  have c6 : wy.cell? ⟨w.heap.size, 6, none⟩ = some (.int .i64 y.room) := by simpa using hy 6 _ rfl
  clear hy
  go_simp
 simp only [pA,pB,pC,pD]
 refine ty 8 ⟨some 14, _, _, _, _, none⟩ (.int .i64 b.room) rfl (by rfl) ?_ hS ?_
 ·intro wy hy
  have c18 : wy.cell? ⟨w.heap.size, 18, none⟩ = some (.int .i64 b.room) := by simpa using hy 18 _ rfl
  have c22 : wy.cell? ⟨w.heap.size, 22, none⟩ = some (.int .i64 u2) := by simpa using hy 22 _ rfl
  have c6 : wy.cell? ⟨w.heap.size, 6, none⟩ = some (.int .i64 y.room) := by simpa using hy 6 _ rfl
  clear hy
  go_simp
 simp only [pA,pB,pC,pD]
 refine ty 9 ⟨some 15, _, _, _, _, none⟩ (.pointer (some ⟨w.heap.size, 21, none⟩)) rfl (by rfl) ?_ hS ?_
 ·intro wy hy
  have c18 : wy.cell? ⟨w.heap.size, 18, none⟩ = some (.int .i64 b.room) := by simpa using hy 18 _ rfl
  have c22 : wy.cell? ⟨w.heap.size, 22, none⟩ = some (.int .i64 u2) := by simpa using hy 22 _ rfl
  have c6 : wy.cell? ⟨w.heap.size, 6, none⟩ = some (.int .i64 y.room) := by simpa using hy 6 _ rfl
  clear hy
  go_simp
 simp only [pA,pB,pC,pD]
 refine ty 10 ⟨some 16, _, _, _, _, none⟩ (.pointer (some ⟨w.heap.size, 22, none⟩)) rfl (by rfl) ?_ hS ?_
 ·intro wy hy
  have c18 : wy.cell? ⟨w.heap.size, 18, none⟩ = some (.int .i64 b.room) := by simpa using hy 18 _ rfl
  have c22 : wy.cell? ⟨w.heap.size, 22, none⟩ = some (.int .i64 u2) := by simpa using hy 22 _ rfl
  have c6 : wy.cell? ⟨w.heap.size, 6, none⟩ = some (.int .i64 y.room) := by simpa using hy 6 _ rfl
  clear hy
  go_simp
 simp only [pA,pB,pC,pD]
 refine ty 11 ⟨some 17, _, _, _, _, none⟩ (.int .i64 u2) rfl (by rfl) ?_ hS ?_
 ·intro wy hy
  have c18 : wy.cell? ⟨w.heap.size, 18, none⟩ = some (.int .i64 b.room) := by simpa using hy 18 _ rfl
  have c22 : wy.cell? ⟨w.heap.size, 22, none⟩ = some (.int .i64 u2) := by simpa using hy 22 _ rfl
  have c6 : wy.cell? ⟨w.heap.size, 6, none⟩ = some (.int .i64 y.room) := by simpa using hy 6 _ rfl
  clear hy
  go_simp
 simp only [pA,pB,pC,pD]
 refine ty 12 ⟨some 18, _, _, _, _, none⟩ (.int .i64 (b.room - u2)) rfl (by rfl) ?_ hS ?_
 ·intro wy hy
  have c18 : wy.cell? ⟨w.heap.size, 18, none⟩ = some (.int .i64 b.room) := by simpa using hy 18 _ rfl
  have c22 : wy.cell? ⟨w.heap.size, 22, none⟩ = some (.int .i64 u2) := by simpa using hy 22 _ rfl
  have c6 : wy.cell? ⟨w.heap.size, 6, none⟩ = some (.int .i64 y.room) := by simpa using hy 6 _ rfl
  clear hy
  go_simp; rw [IntKind.wrap_i64]; omega
 simp only [pA,pB,pC,pD]
 refine ty 13 ⟨some 19, _, _, _, _, none⟩ (.pointer (some ⟨w.heap.size, 2, none⟩)) rfl (by rfl) ?_ hS ?_
 ·intro wy hy
  have c18 : wy.cell? ⟨w.heap.size, 18, none⟩ = some (.int .i64 b.room) := by simpa using hy 18 _ rfl
  have c22 : wy.cell? ⟨w.heap.size, 22, none⟩ = some (.int .i64 u2) := by simpa using hy 22 _ rfl
  have c6 : wy.cell? ⟨w.heap.size, 6, none⟩ = some (.int .i64 y.room) := by simpa using hy 6 _ rfl
  clear hy
  go_simp
 simp only [pA,pB,pC,pD]
 refine ty 14 ⟨some 20, _, _, _, _, none⟩ (.pointer (some ⟨w.heap.size, 6, none⟩)) rfl (by rfl) ?_ hS ?_
 ·intro wy hy
  have c18 : wy.cell? ⟨w.heap.size, 18, none⟩ = some (.int .i64 b.room) := by simpa using hy 18 _ rfl
  have c22 : wy.cell? ⟨w.heap.size, 22, none⟩ = some (.int .i64 u2) := by simpa using hy 22 _ rfl
  have c6 : wy.cell? ⟨w.heap.size, 6, none⟩ = some (.int .i64 y.room) := by simpa using hy 6 _ rfl
  clear hy
  go_simp
 simp only [pA,pB,pC,pD]
 refine ty 15 ⟨some 21, _, _, _, _, none⟩ (.int .i64 y.room) rfl (by rfl) ?_ hS ?_
 ·intro wy hy
  have c18 : wy.cell? ⟨w.heap.size, 18, none⟩ = some (.int .i64 b.room) := by simpa using hy 18 _ rfl
  have c22 : wy.cell? ⟨w.heap.size, 22, none⟩ = some (.int .i64 u2) := by simpa using hy 22 _ rfl
  have c6 : wy.cell? ⟨w.heap.size, 6, none⟩ = some (.int .i64 y.room) := by simpa using hy 6 _ rfl
  clear hy
  go_simp
 simp only [pA,pB,pC,pD]
 refine ty 16 ⟨some 22, _, _, _, _, none⟩ (.int .i64 (b.room - u2 - y.room)) rfl (by rfl) ?_ hS ?_
 ·intro wy hy
  have c18 : wy.cell? ⟨w.heap.size, 18, none⟩ = some (.int .i64 b.room) := by simpa using hy 18 _ rfl
  have c22 : wy.cell? ⟨w.heap.size, 22, none⟩ = some (.int .i64 u2) := by simpa using hy 22 _ rfl
  have c6 : wy.cell? ⟨w.heap.size, 6, none⟩ = some (.int .i64 y.room) := by simpa using hy 6 _ rfl
  clear hy
  go_simp; rw [IntKind.wrap_i64]; omega
 simp only [pA,pB,pC,pD]
 refine wpAnyH_ready (rs := [5, 18]) (by kernel_rfl) (by simp) (AllReadyH.cons (o := ⟨some 11, _, _, _, _, none⟩) rfl (fun K hK => ?_) (AllReadyH.cons (o := ⟨some 3, _, _, _, _, none⟩) rfl (fun K hK => ?_) AllReadyH.nil))
 ·go_simp
  refine (liked_any p m4 ci bi n y a7 c7 b am cm u1 u2 u3 x.berths lo W _ HW1.out.drew (by simpa using HF1.out.1 7 _ rfl) hpm HF1.out.memo.drew hm4 HB.out hbi (by omega) NM.out N7.out HMK.out HZ.out hll HLW.out).mono ?_
  rintro e w2 ⟨rfl, hmm, hbt⟩
  rw [← HL0.out]
  have hr2 : w2.rangeAt w.heap.size 0 (spotA p ci bi y a7 c7 b am cm u1 u2 u3).toList := fun j v hj => (hbt.cell (a := ⟨w.heap.size, 0 + j, none⟩) (by show w.heap.size < w1.heap.size; omega) (by show w.heap.size ≠ m4; omega)).trans (HS1.out.rangeA j v hj)
  refine hK.out _ _ hr2 (fun hS => ?_)
  clear hK K hr2
  refine tz 17 23 (.agg #[.int .i64 L0, .int .i64 0, .int .i64 0, .int .i64 (b.room - u2 - y.room)]) rfl hS ?_
  simp only [pA,pB,pC,pD]
  refine rd1 18 ⟨some 3, _, _, _, _, none⟩ rfl (fun K hK => ?_)
  go_simp
  have hba : Below w2.heap.size w2 (w2.alloc (Obj.cells #[.int .i64 0, .int .i64 0, .int .i64 0, .int .i64 0] 84)) := (Below.refl _ w2).alloc nL _
  have hs2 : w1.heap.size ≤ w2.heap.size := hbt.size
  refine hK.out _ _ (range_belowV hS hba (by omega)) (fun hS => ?_)
  clear hK K
  have HG3 : Hid (Blk w2.heap.size #[.int .i64 0, .int .i64 0, .int .i64 0, .int .i64 0] 84 (w2.alloc (Obj.cells #[.int .i64 0, .int .i64 0, .int .i64 0, .int .i64 0] 84))) := Blk.alloc _ _ _
  have HMM : Hid (MemoAt m4 (n + 5) x.berths (w2.alloc (Obj.cells #[.int .i64 0, .int .i64 0, .int .i64 0, .int .i64 0] 84))) := hmm.below hba (by omega)
  clear hmm
  have HT3 : Hid (But m4 w1.heap.size w1 (w2.alloc (Obj.cells #[.int .i64 0, .int .i64 0, .int .i64 0, .int .i64 0] 84))) := ((But.refl m4 w1.heap.size w1).drew.trans hbt).trans (But.of_below (hba.mono hs2))
  obtain ⟨g, hg⟩ : ∃ g, g = w2.heap.size := ⟨_, rfl⟩
  have hg1 : w1.heap.size ≤ g := by omega
  generalize w2.alloc (Obj.cells #[.int .i64 0, .int .i64 0, .int .i64 0, .int .i64 0] 84) = w3 at *
  rw [← hg] at HG3 ⊢
  clear hg hba hbt hs2
  refine rd1 19 ⟨none, _, _, _, _, none⟩ rfl (fun K hK => ?_)
  rw [if_pos (by rfl)]
  refine wp_store_mid 84 (.tmp 3) (.tmp 23) (by rfl) g 0 #[.int .i64 L0, .int .i64 0, .int .i64 0, .int .i64 (b.room - u2 - y.room)] (by rfl) (by rfl) HG3.out.there isz_Score (by simp [Value.oneCell']) ?_
  have HG5 : Hid (Blk g #[.int .i64 L0, .int .i64 0, .int .i64 0, .int .i64 (b.room - u2 - y.room)] 84 (w3.setCells g 0 [.int .i64 L0, .int .i64 0, .int .i64 0, .int .i64 (b.room - u2 - y.room)])) := (((HG3.out.set 0 _).set 1 _).set 2 _).set 3 _
  have HT5 : Hid (But m4 w1.heap.size w1 (w3.setCells g 0 [.int .i64 L0, .int .i64 0, .int .i64 0, .int .i64 (b.room - u2 - y.room)])) := HT3.out.trans (But.of_below (below_setCells hg1 _ _ _ (Below.refl _ _)))
  have hrs : (w3.setCells g 0 [.int .i64 L0, .int .i64 0, .int .i64 0, .int .i64 (b.room - u2 - y.room)]).rangeAt w.heap.size 0 (spotA p ci bi y a7 c7 b am cm u1 u2 u3).toList := range_belowV hS (below_setCells (B := w1.heap.size) hg1 _ _ _ (Below.refl _ _)) (by omega)
  have HM5 : Hid (MemoAt m4 (n + 5) x.berths (w3.setCells g 0 [.int .i64 L0, .int .i64 0, .int .i64 0, .int .i64 (b.room - u2 - y.room)])) := HMM.out.below (below_setCells (B := w1.heap.size) hg1 _ _ _ (Below.refl _ _)) (by omega)
  refine hK.out _ _ hrs (fun hS => ?_)
  clear hK K hrs HT3 HG3 HMM
  generalize w3.setCells g 0 [.int .i64 L0, .int .i64 0, .int .i64 0, .int .i64 (b.room - u2 - y.room)] = w5 at *
  refine td ?_
  refine ⟨rfl, ?_⟩
  clear hS
  have hgl : g < w5.heap.size := HG5.out.lt
  have hpl : p < w.heap.size := HF.out.2.1
  have hm1w : m1 < w.heap.size := HF.out.2.2.1.lt
  have hm14 : m1 ≠ m4 := HF.out.2.2.2.2.2.2.2.1 (fun e => by have := HB.out; rw [e] at this; cases this)
  have HS5 : Hid (Blk w.heap.size (spotA p ci bi y a7 c7 b am cm u1 u2 u3) 131 w5) := (HT5.out.block w.heap.size (by omega) (by omega)).trans HS1.out
  have HZ5 : Hid (Blk (w.heap.size + 1) #[.int .i64 0, .int .i64 0, .int .i64 0, .int .i64 0] 84 w5) := (HT5.out.block (w.heap.size + 1) (by omega) (by omega)).trans HZ1.out
  have HW5 : Hid (Below W.heap.size W w5) := HW1.out.trans (HT5.out.below HW1.out.size hm4)
  have HP1 : Hid (w5.cell? ⟨p, 1, none⟩ = some (.slice a1 x.berths.length c1)) := (HT5.out.cell (a := ⟨p, 1, none⟩) (by show p < _; omega) hpm).trans (HF1.out.1 1 _ rfl)
  have HP3 : Hid (w5.cell? ⟨p, 3, none⟩ = some (.slice a3 x.copies.length c3)) := (HT5.out.cell (a := ⟨p, 3, none⟩) (by show p < _; omega) hpm).trans (HF1.out.1 3 _ rfl)
  have HP4 : Hid (w5.cell? ⟨p, 4, none⟩ = some (.map (some m1))) := (HT5.out.cell (a := ⟨p, 4, none⟩) (by show p < _; omega) hpm).trans (HF1.out.1 4 _ rfl)
  have HM1 : Hid (w5.ownsMap Tryz.prog 9 (plainElem Tryz.prog 3) m1 x.berths.length (placesTo (brN x) x.berths.length)) := by
   obtain ⟨es, clock, q1, q2, q3, q4⟩ := HF1.out.2.2.1
   exact ⟨es, clock, (HT5.out.block m1 (by omega) hm14).trans q1, q2, q3, q4⟩
  have s3 : w5.cell? ⟨w.heap.size, 3, none⟩ = some (.string y.service) := HS5.out.cell rfl
  have hw15 : w1.heap.size ≤ w5.heap.size := HT5.out.size
  have HBW5 : Hid (But m4 w.heap.size w w5) := (But.of_below HB1.out).trans (HT5.out.mono HB1.out.size)
  have hw01 : w.heap.size ≤ w1.heap.size := HB1.out.size
  clear HT5 HF1 HS1 HZ1 HW1
  go_wp2_with (first | (refine wpList_load_mid rfl 131 _ rfl w.heap.size 0 (by first | rfl | (simp [go_sem]; done)) (spotA p ci bi y a7 c7 b am cm u1 u2 u3).toList _ HS5.out.rangeA Tryz.underlying131 rfl isz_Spot ?_))
  refine (standing_any (spotA p ci bi y a7 c7 b am cm u1 u2 u3) y.service _).mono ?_
  rintro e w6 ⟨rfl, hw6⟩
  have hb6 : Below w5.heap.size w5 w6 := by rw [hw6]; exact ((Below.refl _ w5).alloc nL _).alloc (by simp) _
  have HX6 : Hid (Blk w5.heap.size (spotA p ci bi y a7 c7 b am cm u1 u2 u3) 131 w6) := by
   rw [hw6]
   exact (Blk.alloc w5 _ _).below ((Below.refl _ _).alloc nL _) (Blk.alloc w5 _ _).lt
  have HV6 : Hid (Blk (w5.heap.size + 1) #[.string y.service] 9 w6) := by
   rw [hw6]
   have h := Blk.alloc (w5.alloc (Obj.cells (spotA p ci bi y a7 c7 b am cm u1 u2 u3) 131)) #[.string y.service] 9
   show Blk _ _ _ _
   simpa using h
  have HIT : Hid (ItIn p m1 w5.heap.size (w5.heap.size + 1) ci x a1 c1 a3 c3 y.service w6) := ⟨HX6.out.cell rfl, HX6.out.cell rfl, HV6.out.cell rfl, (hb6.cell (p := ⟨p, 1, none⟩) (by show p < _; omega)).trans HP1.out, (hb6.cell (p := ⟨p, 3, none⟩) (by show p < _; omega)).trans HP3.out, (hb6.cell (p := ⟨p, 4, none⟩) (by show p < _; omega)).trans HP4.out, ownsMap_below HM1.out hb6 (by omega)⟩
  have HQ6 : Hid (Below w1.heap.size w5 w6) := hb6.mono hw15
  have hw16 : w1.heap.size ≤ w6.heap.size := Nat.le_trans hw15 hb6.size
  have HG6 : Hid (Blk g #[.int .i64 L0, .int .i64 0, .int .i64 0, .int .i64 (b.room - u2 - y.room)] 84 w6) := HG5.out.below hb6 hgl
  have HS6 : Hid (Blk w.heap.size (spotA p ci bi y a7 c7 b am cm u1 u2 u3) 131 w6) := HS5.out.below hb6 HS5.out.lt
  have HZ6 : Hid (Blk (w.heap.size + 1) #[.int .i64 0, .int .i64 0, .int .i64 0, .int .i64 0] 84 w6) := HZ5.out.below hb6 HZ5.out.lt
  have HW6 : Hid (Below W.heap.size W w6) := HW5.out.trans (hb6.mono HW5.out.size)
  have hs6 : w5.heap.size + 1 < w6.heap.size := HV6.out.lt
  clear hw6 hb6 HG5 HS5 HZ5 HW5 HP1 HP3 HP4 HM1 HX6 HV6 s3
  go_wp2_with fail
  refine wpIn_wide.1 (wpIn_rangeFunc_ownH (F := Fence.wide) (n := 6) rfl (by omega) (gf := 128) (lb := #[.pointer (some ⟨w5.heap.size, 0, none⟩), .pointer (some ⟨w5.heap.size + 1, 0, none⟩)]) rfl trivial (enters_of Tryz.func128 (by kernel_rfl) rfl)
   (standing_stops p m1 w5.heap.size (w5.heap.size + 1) ci g w6.heap.size x a1 c1 a3 c3 y.service lo W w6 HW6.out N1.out N3.out HIT.out l3 HW6.out.size (by have := HW.out.size; omega) nL ⟨by omega, by omega⟩ ⟨by omega, by omega⟩ ⟨by omega, by omega⟩ ⟨by omega, by omega⟩)
   (fun h1 h2 => h1.trans h2) (fun W' l' o o' hl _ _ _ => ⟨rfl, rfl, rfl, (grownBy_putObj' W' l' o').size, fun k hk _ => World.putObj_heap_other (by omega)⟩) (Below.refl _ _) (fun _ => rfl)
   (fun pre W' => Blk g (outZ L0 (b.room - u2 - y.room) b.zone b.name pre) 84 W' ∧ Blk w.heap.size (spotA p ci bi y a7 c7 b am cm u1 u2 u3) 131 W' ∧ Blk (w.heap.size + 1) #[.int .i64 0, .int .i64 0, .int .i64 0, .int .i64 0] 84 W' ∧ Below w1.heap.size w5 W' ∧ w6.heap.size ≤ W'.heap.size)
   (fun _ _ _ => False) ?_ ?_ ?_ (fun s a' W' => ∃ Bx, w6.heap.size ≤ Bx ∧ Blk Bx (brA s) 61 W' ∧ a' = { tmps := #[.agg (spotA p ci bi y a7 c7 b am cm u1 u2 u3), .pointer (some ⟨w.heap.size, 0, none⟩), .pointer (some ⟨w.heap.size + 1, 0, none⟩), .pointer (some ⟨g, 0, none⟩), undef, .pointer (some ⟨Bx, 0, none⟩), .pointer (some ⟨w.heap.size, 2, none⟩), .pointer (some ⟨w.heap.size, 9, none⟩), .slice a7 y.likes.length c7, .agg (spotA p ci bi y a7 c7 b am cm u1 u2 u3), .func (.func 103) #[.agg (spotA p ci bi y a7 c7 b am cm u1 u2 u3)] #[], .int .i64 L0, .pointer (some ⟨w.heap.size, 15, none⟩), .pointer (some ⟨w.heap.size, 18, none⟩), .int .i64 b.room, .pointer (some ⟨w.heap.size, 21, none⟩), .pointer (some ⟨w.heap.size, 22, none⟩), .int .i64 u2, .int .i64 (b.room - u2), .pointer (some ⟨w.heap.size, 2, none⟩), .pointer (some ⟨w.heap.size, 6, none⟩), .int .i64 y.room, .int .i64 (b.room - u2 - y.room), .agg #[.int .i64 L0, .int .i64 0, .int .i64 0, .int .i64 (b.room - u2 - y.room)], .agg (spotA p ci bi y a7 c7 b am cm u1 u2 u3), .pointer (some ⟨w.heap.size, 2, none⟩), .pointer (some ⟨w.heap.size, 3, none⟩), .string y.service, .func (.func 128) #[] #[.pointer (some ⟨w5.heap.size, 0, none⟩), .pointer (some ⟨w5.heap.size + 1, 0, none⟩)], (stEnc s)[0], (stEnc s)[1], undef, undef, undef, undef, undef, undef, undef, undef, undef, undef, undef, undef, undef, undef, undef, undef, undef, undef, undef, undef, undef], defers := [] }) ?_ ?_ ?_ ?_ ?_)
  ·rintro s A B row ⟨h1, h2, h3, h4, h5⟩ hgr hr
   have hne : ∀ k, k < w6.heap.size → some k ≠ row := fun k hk e => by have := (hr _ e.symm).1; omega
   exact ⟨h1.grown hgr (hne _ (by omega)), h2.grown hgr (hne _ (by omega)), h3.grown hgr (hne _ (by omega)), h4.grown hgr (Nat.le_trans hw15 h4.size) (fun k e => Nat.le_trans hw16 (hr k e).1), Nat.le_trans h5 hgr.size⟩
  ·intro c s A B row h
   exact h.elim
  ·exact ⟨HG6.out, HS6.out, HZ6.out, HQ6.out, Nat.le_refl _⟩
  ·rintro s a' _ A B row ⟨Bx, h1, h2, h3⟩ hgr hr
   refine ⟨Bx, h1, h2.grown hgr (fun e => ?_), h3⟩
   obtain ⟨_, o, ho, hc⟩ := hr _ e.symm
   rw [show A.heap[Bx]? = _ from h2] at ho
   cases ho
   cases hc
  ·rintro l' pre s W' K ⟨h1, h2, h3, h4, h5⟩ hK
   have hKK := iH hK
   clear hK
   gi_wp2
   exact hKK.out _ _ ((KeepsOthers.alloc _ _).from _) (But.of_below ((Below.refl _ W').alloc h5 _)) ⟨h1.below ((Below.refl _ W').alloc nL _) h1.lt, h2.below ((Below.refl _ W').alloc nL _) h2.lt, h3.below ((Below.refl _ W').alloc nL _) h3.lt, h4.alloc (Nat.le_trans hw15 h4.size) _, by simp; omega⟩ ⟨W'.heap.size, h5, Blk.alloc _ _ _, rfl⟩
  ·rintro l' pre s a' W' hl' ⟨r', hr'⟩ ⟨h1, h2, h3, h4, h5⟩ ⟨Bx, hBx, hbx, rfl⟩ hlt'
   have hZn : cntZ b.zone pre ≤ 60 := Nat.le_trans List.countP_le_length (by omega)
   have hNn : cntN b.name pre ≤ 60 := Nat.le_trans List.countP_le_length (by omega)
   have H1 : Hid (Blk g (outZ L0 (b.room - u2 - y.room) b.zone b.name pre) 84 W') := h1
   have H2 := iH h2
   have H3 := iH h3
   have H4 := iH h4
   have H5 := iH h5
   obtain ⟨Z, hZe⟩ : ∃ Z : Int, ((cntZ b.zone pre : Nat) : Int) = Z := ⟨_, rfl⟩
   obtain ⟨N, hNe⟩ : ∃ N : Int, ((cntN b.name pre : Nat) : Int) = N := ⟨_, rfl⟩
   unfold outZ at H1
   rw [hZe, hNe] at H1
   have hZ0 : 0 ≤ Z ∧ Z ≤ 60 := by omega
   have hN0 : 0 ≤ N ∧ N ≤ 60 := by omega
   have c0 : W'.cell? ⟨Bx, 0, none⟩ = some (.string s.b.name) := hbx.cell rfl
   have c1 : W'.cell? ⟨Bx, 1, none⟩ = some (.string s.b.zone) := hbx.cell rfl
   have d0 : W'.cell? ⟨w.heap.size, 15, none⟩ = some (.string b.name) := h2.cell rfl
   have d1 : W'.cell? ⟨w.heap.size, 16, none⟩ = some (.string b.zone) := h2.cell rfl
   have o1 : W'.cell? ⟨g, 1, none⟩ = some (.int .i64 Z) := H1.out.cell rfl
   have o2 : W'.cell? ⟨g, 2, none⟩ = some (.int .i64 N) := H1.out.cell rfl
   have v1 : W'.frozen? ⟨g, 1, none⟩ = false := H1.out.frozen 1
   have v2 : W'.frozen? ⟨g, 2, none⟩ = false := H1.out.frozen 2
   have hx1 := H1.out.set 1 (.int .i64 (Z + 1))
   have c0' : (W'.setCell ⟨g, 1, none⟩ (.int .i64 (Z + 1))).cell? ⟨Bx, 0, none⟩ = some (.string s.b.name) := (hbx.other (a := ⟨g, 1, none⟩) (by show Bx ≠ g; omega) _).cell rfl
   have d0' : (W'.setCell ⟨g, 1, none⟩ (.int .i64 (Z + 1))).cell? ⟨w.heap.size, 15, none⟩ = some (.string b.name) := (h2.other (a := ⟨g, 1, none⟩) (by show w.heap.size ≠ g; omega) _).cell rfl
   have o2' : (W'.setCell ⟨g, 1, none⟩ (.int .i64 (Z + 1))).cell? ⟨g, 2, none⟩ = some (.int .i64 N) := hx1.cell rfl
   have v2' : (W'.setCell ⟨g, 1, none⟩ (.int .i64 (Z + 1))).frozen? ⟨g, 2, none⟩ = false := hx1.frozen 2
   have hWg : W.heap.size ≤ g := by have := HW.out.size; omega
   obtain ⟨hZ0, hZ1⟩ := hZ0
   obtain ⟨hN0, hN1⟩ := hN0
   clear h1 h2 h3 h4 h5 hx1 hr'
   by_cases hz' : s.b.zone = b.zone
   ·by_cases hn' : s.b.name = b.name
    ·skip
     have tz := bts_eq hz'
     have tn := bts_eq hn'
     have ez : ((cntZ b.zone (pre ++ [s]) : Nat) : Int) = Z + 1 := by rw [cntZ_snoc, if_pos hz', ← hZe]; omega
     have en : ((cntN b.name (pre ++ [s]) : Nat) : Int) = N + 1 := by rw [cntN_snoc, if_pos hn', ← hNe]; omega
     have EZ := iH ez
     have EN := iH en
     clear hz' hn' ez en
     gi_wp2
     refine ⟨((KeepsOthers.setCell _ _ _).trans (KeepsOthers.setCell _ _ _)).from _, ((But.refl g w6.heap.size W').set 1 _).set 2 _, ?_, ((H2.out.other (a := ⟨g, 1, none⟩) (by show w.heap.size ≠ g; omega) _).other (a := ⟨g, 2, none⟩) (by show w.heap.size ≠ g; omega) _), ((H3.out.other (a := ⟨g, 1, none⟩) (by show w.heap.size + 1 ≠ g; omega) _).other (a := ⟨g, 2, none⟩) (by show w.heap.size + 1 ≠ g; omega) _), ((H4.out.setCell (p := ⟨g, 1, none⟩) (by show w1.heap.size ≤ g; omega) _).setCell (p := ⟨g, 2, none⟩) (by show w1.heap.size ≤ g; omega) _), by simp [World.setCell]; exact H5.out⟩
     show Blk g #[.int .i64 L0, .int .i64 ((cntZ b.zone (pre ++ [s]) : Nat) : Int), .int .i64 ((cntN b.name (pre ++ [s]) : Nat) : Int), .int .i64 (b.room - u2 - y.room)] _ _
     rw [EZ.out, EN.out]
     exact ((H1.out.set 1 (.int .i64 (Z + 1))).set 2 (.int .i64 (N + 1)))
    ·skip
     have tz := bts_eq hz'
     have tn := bts_ne hn'
     have ez : ((cntZ b.zone (pre ++ [s]) : Nat) : Int) = Z + 1 := by rw [cntZ_snoc, if_pos hz', ← hZe]; omega
     have en : ((cntN b.name (pre ++ [s]) : Nat) : Int) = N := by rw [cntN_snoc, if_neg hn', ← hNe]; omega
     have EZ := iH ez
     have EN := iH en
     clear hz' hn' ez en
     gi_wp2
     refine ⟨(KeepsOthers.setCell _ _ _).from _, (But.refl g w6.heap.size W').set 1 _, ?_, (H2.out.other (a := ⟨g, 1, none⟩) (by show w.heap.size ≠ g; omega) _), (H3.out.other (a := ⟨g, 1, none⟩) (by show w.heap.size + 1 ≠ g; omega) _), (H4.out.setCell (p := ⟨g, 1, none⟩) (by show w1.heap.size ≤ g; omega) _), by simp [World.setCell]; exact H5.out⟩
     show Blk g #[.int .i64 L0, .int .i64 ((cntZ b.zone (pre ++ [s]) : Nat) : Int), .int .i64 ((cntN b.name (pre ++ [s]) : Nat) : Int), .int .i64 (b.room - u2 - y.room)] _ _
     rw [EZ.out, EN.out]
     exact (H1.out.set 1 (.int .i64 (Z + 1)))
   ·by_cases hn' : s.b.name = b.name
    ·skip
     have tz := bts_ne hz'
     have tn := bts_eq hn'
     have ez : ((cntZ b.zone (pre ++ [s]) : Nat) : Int) = Z := by rw [cntZ_snoc, if_neg hz', ← hZe]; omega
     have en : ((cntN b.name (pre ++ [s]) : Nat) : Int) = N + 1 := by rw [cntN_snoc, if_pos hn', ← hNe]; omega
     have EZ := iH ez
     have EN := iH en
     clear hz' hn' ez en
     gi_wp2
     refine ⟨(KeepsOthers.setCell _ _ _).from _, (But.refl g w6.heap.size W').set 2 _, ?_, (H2.out.other (a := ⟨g, 2, none⟩) (by show w.heap.size ≠ g; omega) _), (H3.out.other (a := ⟨g, 2, none⟩) (by show w.heap.size + 1 ≠ g; omega) _), (H4.out.setCell (p := ⟨g, 2, none⟩) (by show w1.heap.size ≤ g; omega) _), by simp [World.setCell]; exact H5.out⟩
     show Blk g #[.int .i64 L0, .int .i64 ((cntZ b.zone (pre ++ [s]) : Nat) : Int), .int .i64 ((cntN b.name (pre ++ [s]) : Nat) : Int), .int .i64 (b.room - u2 - y.room)] _ _
     rw [EZ.out, EN.out]
     exact (H1.out.set 2 (.int .i64 (N + 1)))
    ·skip
     have tz := bts_ne hz'
     have tn := bts_ne hn'
     have ez : ((cntZ b.zone (pre ++ [s]) : Nat) : Int) = Z := by rw [cntZ_snoc, if_neg hz', ← hZe]; omega
     have en : ((cntN b.name (pre ++ [s]) : Nat) : Int) = N := by rw [cntN_snoc, if_neg hn', ← hNe]; omega
     have EZ := iH ez
     have EN := iH en
     clear hz' hn' ez en
     gi_wp2
     refine ⟨(KeepsOthers.refl W').from _, But.refl g w6.heap.size W', ?_, H2.out, H3.out, H4.out, H5.out⟩
     show Blk g #[.int .i64 L0, .int .i64 ((cntZ b.zone (pre ++ [s]) : Nat) : Int), .int .i64 ((cntN b.name (pre ++ [s]) : Nat) : Int), .int .i64 (b.room - u2 - y.room)] _ _
     rw [EZ.out, EN.out]
     exact H1.out
  ·rintro D xs W' hD hcame ⟨h1, h2, h3, h4, h5⟩ hK
   obtain ⟨q1, q2⟩ := came_counts HV.out ci y.service b.zone b.name HBN.out x.copies.length xs hcame
   obtain ⟨Z, hZe⟩ : ∃ Z : Int, ((cntZ b.zone xs : Nat) : Int) = Z := ⟨_, rfl⟩
   obtain ⟨N, hNe⟩ : ∃ N : Int, ((cntN b.name xs : Nat) : Int) = N := ⟨_, rfl⟩
   have H1 : Hid (Blk g (outZ L0 (b.room - u2 - y.room) b.zone b.name xs) 84 W') := h1
   unfold outZ at H1
   rw [hZe, hNe] at H1
   rw [q1] at hZe
   rw [q2] at hNe
   have HZE := iH hZe
   have HNE := iH hNe
   have HT := iH h3.there
   have hR10 := World.rangeAt_setCells_same W' (w.heap.size + 1) 0 [.int .i64 L0, .int .i64 Z, .int .i64 N, .int .i64 (b.room - u2 - y.room)] h3.there
   have hbs : Below w.heap.size W' (W'.setCells (w.heap.size + 1) 0 [.int .i64 L0, .int .i64 Z, .int .i64 N, .int .i64 (b.room - u2 - y.room)]) := below_setCells (by omega) _ _ _ (Below.refl _ _)
   have hB10 : But m4 w.heap.size w (W'.setCells (w.heap.size + 1) 0 [.int .i64 L0, .int .i64 Z, .int .i64 N, .int .i64 (b.room - u2 - y.room)]) := (HBW5.out.trans (But.of_below (h4.mono hw01))).trans (But.of_below hbs)
   have hM10 : MemoAt m4 (n + 5) x.berths (W'.setCells (w.heap.size + 1) 0 [.int .i64 L0, .int .i64 Z, .int .i64 N, .int .i64 (b.room - u2 - y.room)]) := (HM5.out.below h4 (by omega)).below hbs hm4w
   have hsz10 : w.heap.size ≤ (W'.setCells (w.heap.size + 1) 0 [.int .i64 L0, .int .i64 Z, .int .i64 N, .int .i64 (b.room - u2 - y.room)]).heap.size := hB10.size
   have hK10 : (W'.setCells (w.heap.size + 1) 0 [.int .i64 L0, .int .i64 Z, .int .i64 N, .int .i64 (b.room - u2 - y.room)]).heap[D]? = some (.deferred (some [])) := (heap_setCells_other (by omega) _ _ _).trans hK
   obtain ⟨w10, HW10⟩ : ∃ w10, Hid (w10 = W'.setCells (w.heap.size + 1) 0 [.int .i64 L0, .int .i64 Z, .int .i64 N, .int .i64 (b.room - u2 - y.room)]) := ⟨_, rfl⟩
   rw [← HW10.out] at hR10 hB10 hK10 hM10 hsz10
   have HM10 := iH hM10
   have HSZ10 := iH hsz10
   have HR10 := iH hR10
   have HB10 := iH hB10
   have HK10 := iH hK10
   have o0 : W'.cell? ⟨g, 0, none⟩ = some (.int .i64 L0) := H1.out.cell rfl
   have o1 : W'.cell? ⟨g, 1, none⟩ = some (.int .i64 Z) := H1.out.cell rfl
   have o2 : W'.cell? ⟨g, 2, none⟩ = some (.int .i64 N) := H1.out.cell rfl
   have o3 : W'.cell? ⟨g, 3, none⟩ = some (.int .i64 (b.room - u2 - y.room)) := H1.out.cell rfl
   clear hR10 hB10 hK10 hM10 hsz10 hbs h1 h2 h3 h4 h5 hZe hNe q1 q2 hcame hK
   go_wp2_with (first | (refine wpList_store_to rfl 84 _ _ rfl (w.heap.size + 1) 0 #[.int .i64 L0, .int .i64 Z, .int .i64 N, .int .i64 (b.room - u2 - y.room)] rfl rfl HT.out isz_Score (by simp [Value.oneCell']) w10 HW10.out ?_))
   refine ⟨by simp, .inl ⟨_, _, rfl, run_takeDeferred HK10.out, ?_⟩⟩
   refine ⟨_, results_cell_mid rfl _ _ (w.heap.size + 1) [.int .i64 L0, .int .i64 Z, .int .i64 N, .int .i64 (b.room - u2 - y.room)] _ rfl ?_ Tryz.underlying84 rfl isz_Score, ?_⟩
   ·intro j v hj
    rw [World.cell?_of_block (w := w10) (a := ⟨w.heap.size + 1, 0 + j, none⟩) (World.putObj_heap_other (by show w.heap.size + 1 ≠ D; omega))]
    exact HR10.out j v hj
   ·have hbp : ∀ o, Below w.heap.size w10 (w10.putObj D o) := fun o => (Below.refl w.heap.size w10).grown (grownBy_putObj' w10 D _) HSZ10.out (fun k e => by cases e; omega)
    exact ⟨ret_agg4 HL0.out HZE.out.symm HNE.out.symm (by rw [HU.out]; omega), HM10.out.below (hbp _) hm4w, HB10.out.trans (But.of_below (hbp _))⟩
  ·intro D c pre W' _ _ h
   exact h.elim
 ·go_simp
  have hba : Below w1.heap.size w1 (w1.alloc (Obj.cells #[.int .i64 0, .int .i64 0, .int .i64 0, .int .i64 0] 84)).drew := ((Below.refl _ w1).alloc nL _).drew
  refine hK.out _ _ (range_belowV HS1.out.rangeA hba (by omega)) (fun hS => ?_)
  clear hK K
  have HG2 : Hid (Blk w1.heap.size #[.int .i64 0, .int .i64 0, .int .i64 0, .int .i64 0] 84 (w1.alloc (Obj.cells #[.int .i64 0, .int .i64 0, .int .i64 0, .int .i64 0] 84)).drew) := (Blk.alloc w1 _ _).drew
  have HF2 := iH (HF1.out.below hba)
  have HW2 := iH (HW1.out.trans (hba.mono HW1.out.size))
  have hs2 : w1.heap.size < (w1.alloc (Obj.cells #[.int .i64 0, .int .i64 0, .int .i64 0, .int .i64 0] 84)).drew.heap.size := HG2.out.lt
  generalize (w1.alloc (Obj.cells #[.int .i64 0, .int .i64 0, .int .i64 0, .int .i64 0] 84)).drew = w2 at *
  refine rd1 5 ⟨some 11, _, _, _, _, none⟩ rfl (fun K hK => ?_)
  go_simp
  refine (liked_any p m4 ci bi n y a7 c7 b am cm u1 u2 u3 x.berths lo W _ HW2.out (HF2.out.1 7 _ rfl) hpm HF2.out.memo hm4 HB.out hbi (by omega) NM.out N7.out HMK.out HZ.out hll HLW.out).mono ?_
  rintro e w3 ⟨rfl, hmm, hbt⟩
  rw [← HL0.out]
  have hr3 : w3.rangeAt w.heap.size 0 (spotA p ci bi y a7 c7 b am cm u1 u2 u3).toList := fun j v hj => (hbt.cell (a := ⟨w.heap.size, 0 + j, none⟩) (by show w.heap.size < w2.heap.size; omega) (by show w.heap.size ≠ m4; omega)).trans (hS j v hj)
  refine hK.out _ _ hr3 (fun hS => ?_)
  clear hK K hr3
  refine tz 17 23 (.agg #[.int .i64 L0, .int .i64 0, .int .i64 0, .int .i64 (b.room - u2 - y.room)]) rfl hS ?_
  simp only [pA,pB,pC,pD]
  have HMM := iH hmm
  clear hmm
  have HT3 : Hid (But m4 w1.heap.size w1 w3) := (But.of_below hba).trans (hbt.mono (by omega))
  have HG3 : Hid (Blk w1.heap.size #[.int .i64 0, .int .i64 0, .int .i64 0, .int .i64 0] 84 w3) := (hbt.block w1.heap.size hs2 (by omega)).trans HG2.out
  obtain ⟨g, hg⟩ : ∃ g, g = w1.heap.size := ⟨_, rfl⟩
  have hg1 : w1.heap.size ≤ g := by omega
  simp only [← hg] at HG3 ⊢
  clear hg hba hbt hs2 HG2 HF2 HW2
  refine rd1 19 ⟨none, _, _, _, _, none⟩ rfl (fun K hK => ?_)
  rw [if_pos (by rfl)]
  refine wp_store_mid 84 (.tmp 3) (.tmp 23) (by rfl) g 0 #[.int .i64 L0, .int .i64 0, .int .i64 0, .int .i64 (b.room - u2 - y.room)] (by rfl) (by rfl) HG3.out.there isz_Score (by simp [Value.oneCell']) ?_
  have HG5 : Hid (Blk g #[.int .i64 L0, .int .i64 0, .int .i64 0, .int .i64 (b.room - u2 - y.room)] 84 (w3.setCells g 0 [.int .i64 L0, .int .i64 0, .int .i64 0, .int .i64 (b.room - u2 - y.room)])) := (((HG3.out.set 0 _).set 1 _).set 2 _).set 3 _
  have HT5 : Hid (But m4 w1.heap.size w1 (w3.setCells g 0 [.int .i64 L0, .int .i64 0, .int .i64 0, .int .i64 (b.room - u2 - y.room)])) := HT3.out.trans (But.of_below (below_setCells hg1 _ _ _ (Below.refl _ _)))
  have hrs : (w3.setCells g 0 [.int .i64 L0, .int .i64 0, .int .i64 0, .int .i64 (b.room - u2 - y.room)]).rangeAt w.heap.size 0 (spotA p ci bi y a7 c7 b am cm u1 u2 u3).toList := range_belowV hS (below_setCells (B := w1.heap.size) hg1 _ _ _ (Below.refl _ _)) (by omega)
  have HM5 : Hid (MemoAt m4 (n + 5) x.berths (w3.setCells g 0 [.int .i64 L0, .int .i64 0, .int .i64 0, .int .i64 (b.room - u2 - y.room)])) := HMM.out.below (below_setCells (B := w1.heap.size) hg1 _ _ _ (Below.refl _ _)) (by omega)
  refine hK.out _ _ hrs (fun hS => ?_)
  clear hK K hrs HT3 HG3 HMM
  generalize w3.setCells g 0 [.int .i64 L0, .int .i64 0, .int .i64 0, .int .i64 (b.room - u2 - y.room)] = w5 at *
  refine td ?_
  refine ⟨rfl, ?_⟩
  clear hS
  have hgl : g < w5.heap.size := HG5.out.lt
  have hpl : p < w.heap.size := HF.out.2.1
  have hm1w : m1 < w.heap.size := HF.out.2.2.1.lt
  have hm14 : m1 ≠ m4 := HF.out.2.2.2.2.2.2.2.1 (fun e => by have := HB.out; rw [e] at this; cases this)
  have HS5 : Hid (Blk w.heap.size (spotA p ci bi y a7 c7 b am cm u1 u2 u3) 131 w5) := (HT5.out.block w.heap.size (by omega) (by omega)).trans HS1.out
  have HZ5 : Hid (Blk (w.heap.size + 1) #[.int .i64 0, .int .i64 0, .int .i64 0, .int .i64 0] 84 w5) := (HT5.out.block (w.heap.size + 1) (by omega) (by omega)).trans HZ1.out
  have HW5 : Hid (Below W.heap.size W w5) := HW1.out.trans (HT5.out.below HW1.out.size hm4)
  have HP1 : Hid (w5.cell? ⟨p, 1, none⟩ = some (.slice a1 x.berths.length c1)) := (HT5.out.cell (a := ⟨p, 1, none⟩) (by show p < _; omega) hpm).trans (HF1.out.1 1 _ rfl)
  have HP3 : Hid (w5.cell? ⟨p, 3, none⟩ = some (.slice a3 x.copies.length c3)) := (HT5.out.cell (a := ⟨p, 3, none⟩) (by show p < _; omega) hpm).trans (HF1.out.1 3 _ rfl)
  have HP4 : Hid (w5.cell? ⟨p, 4, none⟩ = some (.map (some m1))) := (HT5.out.cell (a := ⟨p, 4, none⟩) (by show p < _; omega) hpm).trans (HF1.out.1 4 _ rfl)
  have HM1 : Hid (w5.ownsMap Tryz.prog 9 (plainElem Tryz.prog 3) m1 x.berths.length (placesTo (brN x) x.berths.length)) := by
   obtain ⟨es, clock, q1, q2, q3, q4⟩ := HF1.out.2.2.1
   exact ⟨es, clock, (HT5.out.block m1 (by omega) hm14).trans q1, q2, q3, q4⟩
  have s3 : w5.cell? ⟨w.heap.size, 3, none⟩ = some (.string y.service) := HS5.out.cell rfl
  have hw15 : w1.heap.size ≤ w5.heap.size := HT5.out.size
  have HBW5 : Hid (But m4 w.heap.size w w5) := (But.of_below HB1.out).trans (HT5.out.mono HB1.out.size)
  have hw01 : w.heap.size ≤ w1.heap.size := HB1.out.size
  clear HT5 HF1 HS1 HZ1 HW1
  go_wp2_with (first | (refine wpList_load_mid rfl 131 _ rfl w.heap.size 0 (by first | rfl | (simp [go_sem]; done)) (spotA p ci bi y a7 c7 b am cm u1 u2 u3).toList _ HS5.out.rangeA Tryz.underlying131 rfl isz_Spot ?_))
  refine (standing_any (spotA p ci bi y a7 c7 b am cm u1 u2 u3) y.service _).mono ?_
  rintro e w6 ⟨rfl, hw6⟩
  have hb6 : Below w5.heap.size w5 w6 := by rw [hw6]; exact ((Below.refl _ w5).alloc nL _).alloc (by simp) _
  have HX6 : Hid (Blk w5.heap.size (spotA p ci bi y a7 c7 b am cm u1 u2 u3) 131 w6) := by
   rw [hw6]
   exact (Blk.alloc w5 _ _).below ((Below.refl _ _).alloc nL _) (Blk.alloc w5 _ _).lt
  have HV6 : Hid (Blk (w5.heap.size + 1) #[.string y.service] 9 w6) := by
   rw [hw6]
   have h := Blk.alloc (w5.alloc (Obj.cells (spotA p ci bi y a7 c7 b am cm u1 u2 u3) 131)) #[.string y.service] 9
   show Blk _ _ _ _
   simpa using h
  have HIT : Hid (ItIn p m1 w5.heap.size (w5.heap.size + 1) ci x a1 c1 a3 c3 y.service w6) := ⟨HX6.out.cell rfl, HX6.out.cell rfl, HV6.out.cell rfl, (hb6.cell (p := ⟨p, 1, none⟩) (by show p < _; omega)).trans HP1.out, (hb6.cell (p := ⟨p, 3, none⟩) (by show p < _; omega)).trans HP3.out, (hb6.cell (p := ⟨p, 4, none⟩) (by show p < _; omega)).trans HP4.out, ownsMap_below HM1.out hb6 (by omega)⟩
  have HQ6 : Hid (Below w1.heap.size w5 w6) := hb6.mono hw15
  have hw16 : w1.heap.size ≤ w6.heap.size := Nat.le_trans hw15 hb6.size
  have HG6 : Hid (Blk g #[.int .i64 L0, .int .i64 0, .int .i64 0, .int .i64 (b.room - u2 - y.room)] 84 w6) := HG5.out.below hb6 hgl
  have HS6 : Hid (Blk w.heap.size (spotA p ci bi y a7 c7 b am cm u1 u2 u3) 131 w6) := HS5.out.below hb6 HS5.out.lt
  have HZ6 : Hid (Blk (w.heap.size + 1) #[.int .i64 0, .int .i64 0, .int .i64 0, .int .i64 0] 84 w6) := HZ5.out.below hb6 HZ5.out.lt
  have HW6 : Hid (Below W.heap.size W w6) := HW5.out.trans (hb6.mono HW5.out.size)
  have hs6 : w5.heap.size + 1 < w6.heap.size := HV6.out.lt
  clear hw6 hb6 HG5 HS5 HZ5 HW5 HP1 HP3 HP4 HM1 HX6 HV6 s3
  go_wp2_with fail
  refine wpIn_wide.1 (wpIn_rangeFunc_ownH (F := Fence.wide) (n := 6) rfl (by omega) (gf := 128) (lb := #[.pointer (some ⟨w5.heap.size, 0, none⟩), .pointer (some ⟨w5.heap.size + 1, 0, none⟩)]) rfl trivial (enters_of Tryz.func128 (by kernel_rfl) rfl)
   (standing_stops p m1 w5.heap.size (w5.heap.size + 1) ci g w6.heap.size x a1 c1 a3 c3 y.service lo W w6 HW6.out N1.out N3.out HIT.out l3 HW6.out.size (by have := HW.out.size; omega) nL ⟨by omega, by omega⟩ ⟨by omega, by omega⟩ ⟨by omega, by omega⟩ ⟨by omega, by omega⟩)
   (fun h1 h2 => h1.trans h2) (fun W' l' o o' hl _ _ _ => ⟨rfl, rfl, rfl, (grownBy_putObj' W' l' o').size, fun k hk _ => World.putObj_heap_other (by omega)⟩) (Below.refl _ _) (fun _ => rfl)
   (fun pre W' => Blk g (outZ L0 (b.room - u2 - y.room) b.zone b.name pre) 84 W' ∧ Blk w.heap.size (spotA p ci bi y a7 c7 b am cm u1 u2 u3) 131 W' ∧ Blk (w.heap.size + 1) #[.int .i64 0, .int .i64 0, .int .i64 0, .int .i64 0] 84 W' ∧ Below w1.heap.size w5 W' ∧ w6.heap.size ≤ W'.heap.size)
   (fun _ _ _ => False) ?_ ?_ ?_ (fun s a' W' => ∃ Bx, w6.heap.size ≤ Bx ∧ Blk Bx (brA s) 61 W' ∧ a' = { tmps := #[.agg (spotA p ci bi y a7 c7 b am cm u1 u2 u3), .pointer (some ⟨w.heap.size, 0, none⟩), .pointer (some ⟨w.heap.size + 1, 0, none⟩), .pointer (some ⟨g, 0, none⟩), undef, .pointer (some ⟨Bx, 0, none⟩), .pointer (some ⟨w.heap.size, 2, none⟩), .pointer (some ⟨w.heap.size, 9, none⟩), .slice a7 y.likes.length c7, .agg (spotA p ci bi y a7 c7 b am cm u1 u2 u3), .func (.func 103) #[.agg (spotA p ci bi y a7 c7 b am cm u1 u2 u3)] #[], .int .i64 L0, .pointer (some ⟨w.heap.size, 15, none⟩), .pointer (some ⟨w.heap.size, 18, none⟩), .int .i64 b.room, .pointer (some ⟨w.heap.size, 21, none⟩), .pointer (some ⟨w.heap.size, 22, none⟩), .int .i64 u2, .int .i64 (b.room - u2), .pointer (some ⟨w.heap.size, 2, none⟩), .pointer (some ⟨w.heap.size, 6, none⟩), .int .i64 y.room, .int .i64 (b.room - u2 - y.room), .agg #[.int .i64 L0, .int .i64 0, .int .i64 0, .int .i64 (b.room - u2 - y.room)], .agg (spotA p ci bi y a7 c7 b am cm u1 u2 u3), .pointer (some ⟨w.heap.size, 2, none⟩), .pointer (some ⟨w.heap.size, 3, none⟩), .string y.service, .func (.func 128) #[] #[.pointer (some ⟨w5.heap.size, 0, none⟩), .pointer (some ⟨w5.heap.size + 1, 0, none⟩)], (stEnc s)[0], (stEnc s)[1], undef, undef, undef, undef, undef, undef, undef, undef, undef, undef, undef, undef, undef, undef, undef, undef, undef, undef, undef, undef, undef], defers := [] }) ?_ ?_ ?_ ?_ ?_)
  ·rintro s A B row ⟨h1, h2, h3, h4, h5⟩ hgr hr
   have hne : ∀ k, k < w6.heap.size → some k ≠ row := fun k hk e => by have := (hr _ e.symm).1; omega
   exact ⟨h1.grown hgr (hne _ (by omega)), h2.grown hgr (hne _ (by omega)), h3.grown hgr (hne _ (by omega)), h4.grown hgr (Nat.le_trans hw15 h4.size) (fun k e => Nat.le_trans hw16 (hr k e).1), Nat.le_trans h5 hgr.size⟩
  ·intro c s A B row h
   exact h.elim
  ·exact ⟨HG6.out, HS6.out, HZ6.out, HQ6.out, Nat.le_refl _⟩
  ·rintro s a' _ A B row ⟨Bx, h1, h2, h3⟩ hgr hr
   refine ⟨Bx, h1, h2.grown hgr (fun e => ?_), h3⟩
   obtain ⟨_, o, ho, hc⟩ := hr _ e.symm
   rw [show A.heap[Bx]? = _ from h2] at ho
   cases ho
   cases hc
  ·rintro l' pre s W' K ⟨h1, h2, h3, h4, h5⟩ hK
   have hKK := iH hK
   clear hK
   gi_wp2
   exact hKK.out _ _ ((KeepsOthers.alloc _ _).from _) (But.of_below ((Below.refl _ W').alloc h5 _)) ⟨h1.below ((Below.refl _ W').alloc nL _) h1.lt, h2.below ((Below.refl _ W').alloc nL _) h2.lt, h3.below ((Below.refl _ W').alloc nL _) h3.lt, h4.alloc (Nat.le_trans hw15 h4.size) _, by simp; omega⟩ ⟨W'.heap.size, h5, Blk.alloc _ _ _, rfl⟩
  ·rintro l' pre s a' W' hl' ⟨r', hr'⟩ ⟨h1, h2, h3, h4, h5⟩ ⟨Bx, hBx, hbx, rfl⟩ hlt'
   have hZn : cntZ b.zone pre ≤ 60 := Nat.le_trans List.countP_le_length (by omega)
   have hNn : cntN b.name pre ≤ 60 := Nat.le_trans List.countP_le_length (by omega)
   have H1 : Hid (Blk g (outZ L0 (b.room - u2 - y.room) b.zone b.name pre) 84 W') := h1
   have H2 := iH h2
   have H3 := iH h3
   have H4 := iH h4
   have H5 := iH h5
   obtain ⟨Z, hZe⟩ : ∃ Z : Int, ((cntZ b.zone pre : Nat) : Int) = Z := ⟨_, rfl⟩
   obtain ⟨N, hNe⟩ : ∃ N : Int, ((cntN b.name pre : Nat) : Int) = N := ⟨_, rfl⟩
   unfold outZ at H1
   rw [hZe, hNe] at H1
   have hZ0 : 0 ≤ Z ∧ Z ≤ 60 := by omega
   have hN0 : 0 ≤ N ∧ N ≤ 60 := by omega
   have c0 : W'.cell? ⟨Bx, 0, none⟩ = some (.string s.b.name) := hbx.cell rfl
   have c1 : W'.cell? ⟨Bx, 1, none⟩ = some (.string s.b.zone) := hbx.cell rfl
   have d0 : W'.cell? ⟨w.heap.size, 15, none⟩ = some (.string b.name) := h2.cell rfl
   have d1 : W'.cell? ⟨w.heap.size, 16, none⟩ = some (.string b.zone) := h2.cell rfl
   have o1 : W'.cell? ⟨g, 1, none⟩ = some (.int .i64 Z) := H1.out.cell rfl
   have o2 : W'.cell? ⟨g, 2, none⟩ = some (.int .i64 N) := H1.out.cell rfl
   have v1 : W'.frozen? ⟨g, 1, none⟩ = false := H1.out.frozen 1
   have v2 : W'.frozen? ⟨g, 2, none⟩ = false := H1.out.frozen 2
   have hx1 := H1.out.set 1 (.int .i64 (Z + 1))
   have c0' : (W'.setCell ⟨g, 1, none⟩ (.int .i64 (Z + 1))).cell? ⟨Bx, 0, none⟩ = some (.string s.b.name) := (hbx.other (a := ⟨g, 1, none⟩) (by show Bx ≠ g; omega) _).cell rfl
   have d0' : (W'.setCell ⟨g, 1, none⟩ (.int .i64 (Z + 1))).cell? ⟨w.heap.size, 15, none⟩ = some (.string b.name) := (h2.other (a := ⟨g, 1, none⟩) (by show w.heap.size ≠ g; omega) _).cell rfl
   have o2' : (W'.setCell ⟨g, 1, none⟩ (.int .i64 (Z + 1))).cell? ⟨g, 2, none⟩ = some (.int .i64 N) := hx1.cell rfl
   have v2' : (W'.setCell ⟨g, 1, none⟩ (.int .i64 (Z + 1))).frozen? ⟨g, 2, none⟩ = false := hx1.frozen 2
   have hWg : W.heap.size ≤ g := by have := HW.out.size; omega
   obtain ⟨hZ0, hZ1⟩ := hZ0
   obtain ⟨hN0, hN1⟩ := hN0
   clear h1 h2 h3 h4 h5 hx1 hr'
   by_cases hz' : s.b.zone = b.zone
   ·by_cases hn' : s.b.name = b.name
    ·skip
     have tz := bts_eq hz'
     have tn := bts_eq hn'
     have ez : ((cntZ b.zone (pre ++ [s]) : Nat) : Int) = Z + 1 := by rw [cntZ_snoc, if_pos hz', ← hZe]; omega
     have en : ((cntN b.name (pre ++ [s]) : Nat) : Int) = N + 1 := by rw [cntN_snoc, if_pos hn', ← hNe]; omega
     have EZ := iH ez
     have EN := iH en
     clear hz' hn' ez en
     gi_wp2
     refine ⟨((KeepsOthers.setCell _ _ _).trans (KeepsOthers.setCell _ _ _)).from _, ((But.refl g w6.heap.size W').set 1 _).set 2 _, ?_, ((H2.out.other (a := ⟨g, 1, none⟩) (by show w.heap.size ≠ g; omega) _).other (a := ⟨g, 2, none⟩) (by show w.heap.size ≠ g; omega) _), ((H3.out.other (a := ⟨g, 1, none⟩) (by show w.heap.size + 1 ≠ g; omega) _).other (a := ⟨g, 2, none⟩) (by show w.heap.size + 1 ≠ g; omega) _), ((H4.out.setCell (p := ⟨g, 1, none⟩) (by show w1.heap.size ≤ g; omega) _).setCell (p := ⟨g, 2, none⟩) (by show w1.heap.size ≤ g; omega) _), by simp [World.setCell]; exact H5.out⟩
     show Blk g #[.int .i64 L0, .int .i64 ((cntZ b.zone (pre ++ [s]) : Nat) : Int), .int .i64 ((cntN b.name (pre ++ [s]) : Nat) : Int), .int .i64 (b.room - u2 - y.room)] _ _
     rw [EZ.out, EN.out]
     exact ((H1.out.set 1 (.int .i64 (Z + 1))).set 2 (.int .i64 (N + 1)))
    ·skip
     have tz := bts_eq hz'
     have tn := bts_ne hn'
     have ez : ((cntZ b.zone (pre ++ [s]) : Nat) : Int) = Z + 1 := by rw [cntZ_snoc, if_pos hz', ← hZe]; omega
     have en : ((cntN b.name (pre ++ [s]) : Nat) : Int) = N := by rw [cntN_snoc, if_neg hn', ← hNe]; omega
     have EZ := iH ez
     have EN := iH en
     clear hz' hn' ez en
     gi_wp2
     refine ⟨(KeepsOthers.setCell _ _ _).from _, (But.refl g w6.heap.size W').set 1 _, ?_, (H2.out.other (a := ⟨g, 1, none⟩) (by show w.heap.size ≠ g; omega) _), (H3.out.other (a := ⟨g, 1, none⟩) (by show w.heap.size + 1 ≠ g; omega) _), (H4.out.setCell (p := ⟨g, 1, none⟩) (by show w1.heap.size ≤ g; omega) _), by simp [World.setCell]; exact H5.out⟩
     show Blk g #[.int .i64 L0, .int .i64 ((cntZ b.zone (pre ++ [s]) : Nat) : Int), .int .i64 ((cntN b.name (pre ++ [s]) : Nat) : Int), .int .i64 (b.room - u2 - y.room)] _ _
     rw [EZ.out, EN.out]
     exact (H1.out.set 1 (.int .i64 (Z + 1)))
   ·by_cases hn' : s.b.name = b.name
    ·skip
     have tz := bts_ne hz'
     have tn := bts_eq hn'
     have ez : ((cntZ b.zone (pre ++ [s]) : Nat) : Int) = Z := by rw [cntZ_snoc, if_neg hz', ← hZe]; omega
     have en : ((cntN b.name (pre ++ [s]) : Nat) : Int) = N + 1 := by rw [cntN_snoc, if_pos hn', ← hNe]; omega
     have EZ := iH ez
     have EN := iH en
     clear hz' hn' ez en
     gi_wp2
     refine ⟨(KeepsOthers.setCell _ _ _).from _, (But.refl g w6.heap.size W').set 2 _, ?_, (H2.out.other (a := ⟨g, 2, none⟩) (by show w.heap.size ≠ g; omega) _), (H3.out.other (a := ⟨g, 2, none⟩) (by show w.heap.size + 1 ≠ g; omega) _), (H4.out.setCell (p := ⟨g, 2, none⟩) (by show w1.heap.size ≤ g; omega) _), by simp [World.setCell]; exact H5.out⟩
     show Blk g #[.int .i64 L0, .int .i64 ((cntZ b.zone (pre ++ [s]) : Nat) : Int), .int .i64 ((cntN b.name (pre ++ [s]) : Nat) : Int), .int .i64 (b.room - u2 - y.room)] _ _
     rw [EZ.out, EN.out]
     exact (H1.out.set 2 (.int .i64 (N + 1)))
    ·skip
     have tz := bts_ne hz'
     have tn := bts_ne hn'
     have ez : ((cntZ b.zone (pre ++ [s]) : Nat) : Int) = Z := by rw [cntZ_snoc, if_neg hz', ← hZe]; omega
     have en : ((cntN b.name (pre ++ [s]) : Nat) : Int) = N := by rw [cntN_snoc, if_neg hn', ← hNe]; omega
     have EZ := iH ez
     have EN := iH en
     clear hz' hn' ez en
     gi_wp2
     refine ⟨(KeepsOthers.refl W').from _, But.refl g w6.heap.size W', ?_, H2.out, H3.out, H4.out, H5.out⟩
     show Blk g #[.int .i64 L0, .int .i64 ((cntZ b.zone (pre ++ [s]) : Nat) : Int), .int .i64 ((cntN b.name (pre ++ [s]) : Nat) : Int), .int .i64 (b.room - u2 - y.room)] _ _
     rw [EZ.out, EN.out]
     exact H1.out
  ·rintro D xs W' hD hcame ⟨h1, h2, h3, h4, h5⟩ hK
   obtain ⟨q1, q2⟩ := came_counts HV.out ci y.service b.zone b.name HBN.out x.copies.length xs hcame
   obtain ⟨Z, hZe⟩ : ∃ Z : Int, ((cntZ b.zone xs : Nat) : Int) = Z := ⟨_, rfl⟩
   obtain ⟨N, hNe⟩ : ∃ N : Int, ((cntN b.name xs : Nat) : Int) = N := ⟨_, rfl⟩
   have H1 : Hid (Blk g (outZ L0 (b.room - u2 - y.room) b.zone b.name xs) 84 W') := h1
   unfold outZ at H1
   rw [hZe, hNe] at H1
   rw [q1] at hZe
   rw [q2] at hNe
   have HZE := iH hZe
   have HNE := iH hNe
   have HT := iH h3.there
   have hR10 := World.rangeAt_setCells_same W' (w.heap.size + 1) 0 [.int .i64 L0, .int .i64 Z, .int .i64 N, .int .i64 (b.room - u2 - y.room)] h3.there
   have hbs : Below w.heap.size W' (W'.setCells (w.heap.size + 1) 0 [.int .i64 L0, .int .i64 Z, .int .i64 N, .int .i64 (b.room - u2 - y.room)]) := below_setCells (by omega) _ _ _ (Below.refl _ _)
   have hB10 : But m4 w.heap.size w (W'.setCells (w.heap.size + 1) 0 [.int .i64 L0, .int .i64 Z, .int .i64 N, .int .i64 (b.room - u2 - y.room)]) := (HBW5.out.trans (But.of_below (h4.mono hw01))).trans (But.of_below hbs)
   have hM10 : MemoAt m4 (n + 5) x.berths (W'.setCells (w.heap.size + 1) 0 [.int .i64 L0, .int .i64 Z, .int .i64 N, .int .i64 (b.room - u2 - y.room)]) := (HM5.out.below h4 (by omega)).below hbs hm4w
   have hsz10 : w.heap.size ≤ (W'.setCells (w.heap.size + 1) 0 [.int .i64 L0, .int .i64 Z, .int .i64 N, .int .i64 (b.room - u2 - y.room)]).heap.size := hB10.size
   have hK10 : (W'.setCells (w.heap.size + 1) 0 [.int .i64 L0, .int .i64 Z, .int .i64 N, .int .i64 (b.room - u2 - y.room)]).heap[D]? = some (.deferred (some [])) := (heap_setCells_other (by omega) _ _ _).trans hK
   obtain ⟨w10, HW10⟩ : ∃ w10, Hid (w10 = W'.setCells (w.heap.size + 1) 0 [.int .i64 L0, .int .i64 Z, .int .i64 N, .int .i64 (b.room - u2 - y.room)]) := ⟨_, rfl⟩
   rw [← HW10.out] at hR10 hB10 hK10 hM10 hsz10
   have HM10 := iH hM10
   have HSZ10 := iH hsz10
   have HR10 := iH hR10
   have HB10 := iH hB10
   have HK10 := iH hK10
   have o0 : W'.cell? ⟨g, 0, none⟩ = some (.int .i64 L0) := H1.out.cell rfl
   have o1 : W'.cell? ⟨g, 1, none⟩ = some (.int .i64 Z) := H1.out.cell rfl
   have o2 : W'.cell? ⟨g, 2, none⟩ = some (.int .i64 N) := H1.out.cell rfl
   have o3 : W'.cell? ⟨g, 3, none⟩ = some (.int .i64 (b.room - u2 - y.room)) := H1.out.cell rfl
   clear hR10 hB10 hK10 hM10 hsz10 hbs h1 h2 h3 h4 h5 hZe hNe q1 q2 hcame hK
   go_wp2_with (first | (refine wpList_store_to rfl 84 _ _ rfl (w.heap.size + 1) 0 #[.int .i64 L0, .int .i64 Z, .int .i64 N, .int .i64 (b.room - u2 - y.room)] rfl rfl HT.out isz_Score (by simp [Value.oneCell']) w10 HW10.out ?_))
   refine ⟨by simp, .inl ⟨_, _, rfl, run_takeDeferred HK10.out, ?_⟩⟩
   refine ⟨_, results_cell_mid rfl _ _ (w.heap.size + 1) [.int .i64 L0, .int .i64 Z, .int .i64 N, .int .i64 (b.room - u2 - y.room)] _ rfl ?_ Tryz.underlying84 rfl isz_Score, ?_⟩
   ·intro j v hj
    rw [World.cell?_of_block (w := w10) (a := ⟨w.heap.size + 1, 0 + j, none⟩) (World.putObj_heap_other (by show w.heap.size + 1 ≠ D; omega))]
    exact HR10.out j v hj
   ·have hbp : ∀ o, Below w.heap.size w10 (w10.putObj D o) := fun o => (Below.refl w.heap.size w10).grown (grownBy_putObj' w10 D _) HSZ10.out (fun k e => by cases e; omega)
    exact ⟨ret_agg4 HL0.out HZE.out.symm HNE.out.symm (by rw [HU.out]; omega), HM10.out.below (hbp _) hm4w, HB10.out.trans (But.of_below (hbp _))⟩
  ·intro D c pre W' _ _ h
   exact h.elim
end Go.Proofs.YtebfdgfhadpieaaGreat
