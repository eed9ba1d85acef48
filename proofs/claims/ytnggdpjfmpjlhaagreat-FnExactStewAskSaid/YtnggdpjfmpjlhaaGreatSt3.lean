import Derived.Test.YtnggdpjfmpjlhaaGreatTkw
import Derived.Test.YtnggdpjfmpjlhaaGreatJ6
import Derived.Deep.RegionHeld3
namespace Go.Proofs.YtnggdpjfmpjlhaaGreat
open Go.RowKit

theorem idxV_cases (bs : List Ssv) (s : ByteArray) : (idxV bs s = -1 ∧ bs.find? (fun b => decide (b.name = s)) = none) ∨ ∃ (k : Nat) (v : Ssv), idxV bs s = (k : Int) ∧ bs[k]? = some v ∧ bs.find? (fun b => decide (b.name = s)) = some v := by
 cases h : bs.findIdx? (fun b => decide (b.name = s)) with
 | none =>
  refine .inl ⟨by unfold idxV; rw [h], ?_⟩
  rw [List.find?_eq_none]
  intro b hb
  have := List.findIdx?_eq_none_iff.1 h b hb
  simpa using this
 | some k =>
  obtain ⟨hk, h1, h2⟩ := List.findIdx?_eq_some_iff_getElem.1 h
  refine .inr ⟨k, bs[k], by unfold idxV; rw [h], List.getElem?_eq_getElem hk, ?_⟩
  rw [List.find?_eq_some_iff_getElem]
  exact ⟨h1, k, hk, rfl, fun j hj => by have := h2 j hj; simpa using this⟩

theorem idxR_any (bs : List Sbt) (s : ByteArray) : decide (0 ≤ idxR bs s) = bs.any (fun t => decide (t.name = s)) := by
 cases h : bs.findIdx? (fun b => decide (b.name = s)) with
 | none =>
  have e : idxR bs s = -1 := by unfold idxR; rw [h]
  rw [e]
  symm
  show _ = false
  rw [List.any_eq_false]
  intro b hb
  have := List.findIdx?_eq_none_iff.1 h b hb
  simpa using this
 | some k =>
  obtain ⟨hk, h1, _⟩ := List.findIdx?_eq_some_iff_getElem.1 h
  have e : idxR bs s = (k : Int) := by unfold idxR; rw [h]
  rw [e]
  have : bs.any (fun t => decide (t.name = s)) = true := List.any_eq_true.2 ⟨bs[k], List.getElem_mem hk, h1⟩
  rw [this]
  simp

def ctB (x : Sbk) (c : Scp) : Bool := if c.state = 1 then c.berth.toList == [] else x.berths.any (fun t => decide (t.name = c.berth))

def cpB (x : Sbk) (c : Scp) : Bool :=
 match x.services.find? (fun b => decide (b.name = c.service)) with
 | some v => inR c.number 1 (v.next - 1) && inR c.version 1 x.now && inR c.image 1 1000000 && inR c.state 1 4 && ctB x c
 | none => false

set_option maxHeartbeats 8000000 in
set_option maxRecDepth 100000 in
theorem copy18_any (x : Sbk) (a1 : Option Addr) (c1 : Nat) (a2 : Option Addr) (c2 : Nat) (a3 : Option Addr) (c3 : Nat) (lo : Nat) (c : Scp) (w : World) (n1 : SliceC SsvC 13 lo w a1 x.services) (n3 : SliceC SbtC 2 lo w a3 x.berths) (l1 : x.services.length ≤ 1048576) (l3 : x.berths.length ≤ 1048576) (hv : ∀ v ∈ x.services, 1 ≤ v.next ∧ v.next ≤ 1000000) :
  Calls Tryz.prog 41 #[.agg #[.int .i64 x.now, .slice a1 x.services.length c1, .slice a2 x.copies.length c2, .slice a3 x.berths.length c3], .agg #[.string c.service, .int .i64 c.number, .int .i64 c.version, .int .i64 c.image, .int .i64 c.state, .bool c.ending, .string c.berth]] w fun e w' => e = .returned (.bool (cpB x c)) ∧ Below w.heap.size w w' := by
 have HN1 := Hid.intro n1
 have HN3 := Hid.intro n3
 have HV := Hid.intro hv
 clear n1 n3 hv
 have HBa : Blk w.heap.size #[.int .i64 x.now, .slice a1 x.services.length c1, .slice a2 x.copies.length c2, .slice a3 x.berths.length c3] 34 (w.alloc (.cells #[.int .i64 x.now, .slice a1 x.services.length c1, .slice a2 x.copies.length c2, .slice a3 x.berths.length c3] 34)) := Blk.alloc _ _ _
 have HC2 : Hid (Blk (w.heap.size + 1) #[.string c.service, .int .i64 c.number, .int .i64 c.version, .int .i64 c.image, .int .i64 c.state, .bool c.ending, .string c.berth] 87 ((w.alloc (.cells #[.int .i64 x.now, .slice a1 x.services.length c1, .slice a2 x.copies.length c2, .slice a3 x.berths.length c3] 34)).alloc (.cells #[.string c.service, .int .i64 c.number, .int .i64 c.version, .int .i64 c.image, .int .i64 c.state, .bool c.ending, .string c.berth] 87))) := by
  have := Blk.alloc (w.alloc (.cells #[.int .i64 x.now, .slice a1 x.services.length c1, .slice a2 x.copies.length c2, .slice a3 x.berths.length c3] 34)) #[.string c.service, .int .i64 c.number, .int .i64 c.version, .int .i64 c.image, .int .i64 c.state, .bool c.ending, .string c.berth] 87
  show Blk _ _ _ _
  simpa using this
 have HB2 : Hid (Blk w.heap.size #[.int .i64 x.now, .slice a1 x.services.length c1, .slice a2 x.copies.length c2, .slice a3 x.berths.length c3] 34 ((w.alloc (.cells #[.int .i64 x.now, .slice a1 x.services.length c1, .slice a2 x.copies.length c2, .slice a3 x.berths.length c3] 34)).alloc (.cells #[.string c.service, .int .i64 c.number, .int .i64 c.version, .int .i64 c.image, .int .i64 c.state, .bool c.ending, .string c.berth] 87))) := HBa.below ((Below.refl _ _).alloc (Nat.le_refl _) _) HBa.lt
 have hB2 : Below w.heap.size w ((w.alloc (.cells #[.int .i64 x.now, .slice a1 x.services.length c1, .slice a2 x.copies.length c2, .slice a3 x.berths.length c3] 34)).alloc (.cells #[.string c.service, .int .i64 c.number, .int .i64 c.version, .int .i64 c.image, .int .i64 c.state, .bool c.ending, .string c.berth] 87)) := by go_grown
 clear HBa
 go_enter Tryz.func41, Tryz.ntmps41
 go_upto_region 1 with fail
 generalize (w.alloc (Obj.cells #[.int .i64 x.now, .slice a1 x.services.length c1, .slice a2 x.copies.length c2, .slice a3 x.berths.length c3] 34)).alloc (Obj.cells #[.string c.service, .int .i64 c.number, .int .i64 c.version, .int .i64 c.image, .int .i64 c.state, .bool c.ending, .string c.berth] 87) = w2 at *
 generalize hg : w.heap.size + 1 = pc at *
 have k0 : w2.cell? ⟨pc, 0, none⟩ = some (.string c.service) := HC2.out.cell rfl
 go_wp2_with (refine wpList_load_mid rfl 34 _ rfl w.heap.size 0 rfl [.int .i64 x.now, .slice a1 x.services.length c1, .slice a2 x.copies.length c2, .slice a3 x.berths.length c3] _ HB2.out.rangeA Tryz.underlying34 rfl isz_Sbk ?_)
 clear k0
 refine (service_at x a1 c1 a2 c2 a3 c3 lo c.service _ (HN1.out.below SsvC.holds hB2 (Nat.le_refl _)) l1).mono ?_
 rintro e w3 ⟨rfl, hb⟩
 have HB3 := Hid.intro (HB2.out.below hb HB2.out.lt)
 have HC3 := Hid.intro (HC2.out.below hb HC2.out.lt)
 have hB3 := hB2.trans (hb.mono hB2.size)
 clear hb HB2 HC2 hB2
 rcases idxV_cases x.services c.service with ⟨hi, hn⟩ | ⟨k, v, hi, hk, hf⟩
 ·rw [hi]
  have HE : Hid (cpB x c = false) := by show _ = _; unfold cpB; rw [hn]
  clear hi hn
  go_upto_region 2 with fail
  refine wp_region_held_drew (S := fun wy => Blk w.heap.size #[.int .i64 x.now, .slice a1 x.services.length c1, .slice a2 x.copies.length c2, .slice a3 x.berths.length c3] 34 wy ∧ Blk pc #[.string c.service, .int .i64 c.number, .int .i64 c.version, .int .i64 c.image, .int .i64 c.state, .bool c.ending, .string c.berth] 87 wy) (by kernel_rfl) ⟨HB3.out, HC3.out⟩ (fun hS => ?_)
  replace HB3 : Hid (Blk w.heap.size #[.int .i64 x.now, .slice a1 x.services.length c1, .slice a2 x.copies.length c2, .slice a3 x.berths.length c3] 34 w3.drew) := HB3.out
  replace HC3 : Hid (Blk pc #[.string c.service, .int .i64 c.number, .int .i64 c.version, .int .i64 c.image, .int .i64 c.state, .bool c.ending, .string c.berth] 87 w3.drew) := HC3.out
  replace hB3 : Below w.heap.size w w3.drew := hB3.drew
  generalize w3.drew = wn at *
  refine tz 0 10 (.int .i64 (-1)) rfl hS ?_
  simp only [pA,pB,pC,pD]
  refine ty 1 ⟨some 11, _, _, _, _, none⟩ (.bool true) rfl (by rfl) ?_ hS ?_
  ·intro wy hy
   clear hy
   first | (go_simp; done) | (go_simp; omega) | (go_simp; intro hh; omega)
  simp only [pA,pB,pC,pD]
  refine tz 2 12 (.bool true) rfl hS ?_
  simp only [pA,pB,pC,pD]
  refine ts 3 13 rfl hS ?_
  simp only [pA,pB,pC,pD]
  refine ts 4 14 rfl hS ?_
  simp only [pA,pB,pC,pD]
  refine ts 5 15 rfl hS ?_
  simp only [pA,pB,pC,pD]
  refine ts 6 16 rfl hS ?_
  simp only [pA,pB,pC,pD]
  refine ts 7 17 rfl hS ?_
  simp only [pA,pB,pC,pD]
  refine ts 8 18 rfl hS ?_
  simp only [pA,pB,pC,pD]
  refine ts 9 19 rfl hS ?_
  simp only [pA,pB,pC,pD]
  refine ts 10 20 rfl hS ?_
  simp only [pA,pB,pC,pD]
  refine ts 11 21 rfl hS ?_
  simp only [pA,pB,pC,pD]
  refine ts 12 22 rfl hS ?_
  simp only [pA,pB,pC,pD]
  refine ts 13 23 rfl hS ?_
  simp only [pA,pB,pC,pD]
  refine tz 14 24 (.bool true) rfl hS ?_
  simp only [pA,pB,pC,pD]
  refine tz 15 25 (.bool true) rfl hS ?_
  simp only [pA,pB,pC,pD]
  refine ts 16 26 rfl hS ?_
  simp only [pA,pB,pC,pD]
  refine ts 17 27 rfl hS ?_
  simp only [pA,pB,pC,pD]
  refine ts 18 28 rfl hS ?_
  simp only [pA,pB,pC,pD]
  refine ts 19 29 rfl hS ?_
  simp only [pA,pB,pC,pD]
  refine ts 20 30 rfl hS ?_
  simp only [pA,pB,pC,pD]
  refine ts 21 31 rfl hS ?_
  simp only [pA,pB,pC,pD]
  refine tz 22 32 (.bool true) rfl hS ?_
  simp only [pA,pB,pC,pD]
  refine tz 23 33 (.bool true) rfl hS ?_
  simp only [pA,pB,pC,pD]
  refine ts 24 34 rfl hS ?_
  simp only [pA,pB,pC,pD]
  refine ts 25 35 rfl hS ?_
  simp only [pA,pB,pC,pD]
  refine ts 26 36 rfl hS ?_
  simp only [pA,pB,pC,pD]
  refine ts 27 37 rfl hS ?_
  simp only [pA,pB,pC,pD]
  refine tz 28 38 (.bool true) rfl hS ?_
  simp only [pA,pB,pC,pD]
  refine tz 29 39 (.bool true) rfl hS ?_
  simp only [pA,pB,pC,pD]
  refine ts 30 40 rfl hS ?_
  simp only [pA,pB,pC,pD]
  refine ts 31 41 rfl hS ?_
  simp only [pA,pB,pC,pD]
  refine ts 32 42 rfl hS ?_
  simp only [pA,pB,pC,pD]
  refine ts 33 43 rfl hS ?_
  simp only [pA,pB,pC,pD]
  refine tz 34 44 (.bool true) rfl hS ?_
  simp only [pA,pB,pC,pD]
  refine wpAnyH_done (by kernel_rfl) ?_ _
  clear hS
  go_wp2_with fail
  go_ret
  exact ⟨ret_bool (by rw [HE.out]), hB3⟩
 ·rw [hi]
  have HK := Hid.intro hk
  have hvn := HV.out v (List.mem_of_getElem? hk)
  obtain ⟨hv1, hv2⟩ := hvn
  have hkl : k < x.services.length := (List.getElem?_eq_some_iff.1 hk).1
  have HE : Hid (cpB x c = (inR c.number 1 (v.next - 1) && inR c.version 1 x.now && inR c.image 1 1000000 && inR c.state 1 4 && ctB x c)) := by show _ = _; unfold cpB; rw [hf]
  obtain ⟨bb, ob, ea, _, _, hcl⟩ := (HN1.out.below SsvC.holds hB3 (Nat.le_refl _)).at hk
  subst ea
  obtain ⟨q0, q1, q2, q3, q4, q5, q6, q7, q8, q9, q10, q11, q12, z0⟩ := hcl
  have HC7 : Hid (w3.cell? ⟨bb, ob + k * 13 + 7, none⟩ = some (.int .i64 v.next)) := q7
  clear hi hf hk q0 q1 q2 q3 q4 q5 q6 q7 q8 q9 q10 q11 q12 z0 HK
  go_upto_region 2 with fail
  cases f0 : inR c.number 1 (v.next - 1) with
  | false =>
   refine wp_region_held_drew (S := fun wy => Blk w.heap.size #[.int .i64 x.now, .slice (some ⟨bb, ob, none⟩) x.services.length c1, .slice a2 x.copies.length c2, .slice a3 x.berths.length c3] 34 wy ∧ Blk pc #[.string c.service, .int .i64 c.number, .int .i64 c.version, .int .i64 c.image, .int .i64 c.state, .bool c.ending, .string c.berth] 87 wy ∧ wy.cell? ⟨bb, ob + k * 13 + 7, none⟩ = some (.int .i64 v.next)) (by kernel_rfl) ⟨HB3.out, HC3.out, HC7.out⟩ (fun hS => ?_)
   replace HB3 : Hid (Blk w.heap.size #[.int .i64 x.now, .slice (some ⟨bb, ob, none⟩) x.services.length c1, .slice a2 x.copies.length c2, .slice a3 x.berths.length c3] 34 w3.drew) := HB3.out
   replace HC3 : Hid (Blk pc #[.string c.service, .int .i64 c.number, .int .i64 c.version, .int .i64 c.image, .int .i64 c.state, .bool c.ending, .string c.berth] 87 w3.drew) := HC3.out
   replace hB3 : Below w.heap.size w w3.drew := hB3.drew
   generalize w3.drew = wn at *
   refine tz 0 10 (.int .i64 (k : Int)) rfl hS ?_
   simp only [pA,pB,pC,pD]
   refine ty 1 ⟨some 11, _, _, _, _, none⟩ (.bool false) rfl (by rfl) ?_ hS ?_
   ·intro wy hy
    clear hy
    first | (go_simp; done) | (go_simp; omega) | (go_simp; intro hh; omega)
   simp only [pA,pB,pC,pD]
   refine tz 2 12 (.bool false) rfl hS ?_
   simp only [pA,pB,pC,pD]
   refine tz 3 13 (.pointer (some ⟨pc, 1, none⟩)) rfl hS ?_
   simp only [pA,pB,pC,pD]
   refine ty 4 ⟨some 14, _, _, _, _, some (2, false)⟩ (.int .i64 c.number) rfl (by rfl) ?_ hS ?_
   ·intro wy hy
    have h := id hy
    have h0 := h.2.1.cell (o := 1) rfl
    clear hy
    go_simp
   simp only [pA,pB,pC,pD]
   refine tz 5 15 (.pointer (some ⟨w.heap.size, 1, none⟩)) rfl hS ?_
   simp only [pA,pB,pC,pD]
   refine ty 6 ⟨some 16, _, _, _, _, some (2, false)⟩ (.slice (some ⟨bb, ob, none⟩) x.services.length c1) rfl (by rfl) ?_ hS ?_
   ·intro wy hy
    have h := id hy
    have h0 := h.1.cell (o := 1) rfl
    clear hy
    go_simp
   simp only [pA,pB,pC,pD]
   refine tz 7 17 (.int .i64 (k : Int)) rfl hS ?_
   simp only [pA,pB,pC,pD]
   refine ty 8 ⟨some 18, _, _, _, _, some (2, false)⟩ (.pointer (some ⟨bb, ob + k * 13, none⟩)) rfl (by rfl) ?_ hS ?_
   ·intro wy hy
    clear hy
    first | (go_simp; done) | (go_simp; omega) | (go_simp; intro hh; omega)
   simp only [pA,pB,pC,pD]
   refine tz 9 19 (.pointer (some ⟨bb, ob + k * 13 + 7, none⟩)) rfl hS ?_
   simp only [pA,pB,pC,pD]
   refine ty 10 ⟨some 20, _, _, _, _, some (2, false)⟩ (.int .i64 v.next) rfl (by rfl) ?_ hS ?_
   ·intro wy hy
    have h := id hy
    have h0 := h.2.2
    clear hy
    go_simp
   simp only [pA,pB,pC,pD]
   refine ty 11 ⟨some 21, _, _, _, _, some (2, false)⟩ (.int .i64 (v.next - 1)) rfl (by rfl) ?_ hS ?_
   ·intro wy hy
    clear hy
    first | (go_simp; done) | (go_simp; rw [IntKind.wrap_i64]; omega) | (go_simp; omega)
   simp only [pA,pB,pC,pD]
   refine rd1 12 ⟨some 22, _, _, _, _, some (2, false)⟩ rfl (fun KK hKK => ?_)
   go_simp
   refine (in18_any _ _ _ _).mono ?_
   rintro e wn ⟨rfl, rfl⟩
   rw [f0]
   refine hKK.out _ _ hS (fun hS => ?_)
   clear hKK KK
   refine tz 13 23 (.bool true) rfl hS ?_
   simp only [pA,pB,pC,pD]
   refine tz 14 24 (.bool true) rfl hS ?_
   simp only [pA,pB,pC,pD]
   refine tz 15 25 (.bool true) rfl hS ?_
   simp only [pA,pB,pC,pD]
   refine ts 16 26 rfl hS ?_
   simp only [pA,pB,pC,pD]
   refine ts 17 27 rfl hS ?_
   simp only [pA,pB,pC,pD]
   refine ts 18 28 rfl hS ?_
   simp only [pA,pB,pC,pD]
   refine ts 19 29 rfl hS ?_
   simp only [pA,pB,pC,pD]
   refine ts 20 30 rfl hS ?_
   simp only [pA,pB,pC,pD]
   refine ts 21 31 rfl hS ?_
   simp only [pA,pB,pC,pD]
   refine tz 22 32 (.bool true) rfl hS ?_
   simp only [pA,pB,pC,pD]
   refine tz 23 33 (.bool true) rfl hS ?_
   simp only [pA,pB,pC,pD]
   refine ts 24 34 rfl hS ?_
   simp only [pA,pB,pC,pD]
   refine ts 25 35 rfl hS ?_
   simp only [pA,pB,pC,pD]
   refine ts 26 36 rfl hS ?_
   simp only [pA,pB,pC,pD]
   refine ts 27 37 rfl hS ?_
   simp only [pA,pB,pC,pD]
   refine tz 28 38 (.bool true) rfl hS ?_
   simp only [pA,pB,pC,pD]
   refine tz 29 39 (.bool true) rfl hS ?_
   simp only [pA,pB,pC,pD]
   refine ts 30 40 rfl hS ?_
   simp only [pA,pB,pC,pD]
   refine ts 31 41 rfl hS ?_
   simp only [pA,pB,pC,pD]
   refine ts 32 42 rfl hS ?_
   simp only [pA,pB,pC,pD]
   refine ts 33 43 rfl hS ?_
   simp only [pA,pB,pC,pD]
   refine tz 34 44 (.bool true) rfl hS ?_
   simp only [pA,pB,pC,pD]
   refine wpAnyH_done (by kernel_rfl) ?_ _
   clear hS
   go_wp2_with fail
   go_ret
   exact ⟨ret_bool (by rw [HE.out, f0]; simp), hB3⟩
  | true =>
   cases f1 : inR c.version 1 x.now with
   | false =>
    refine wp_region_held_drew (S := fun wy => Blk w.heap.size #[.int .i64 x.now, .slice (some ⟨bb, ob, none⟩) x.services.length c1, .slice a2 x.copies.length c2, .slice a3 x.berths.length c3] 34 wy ∧ Blk pc #[.string c.service, .int .i64 c.number, .int .i64 c.version, .int .i64 c.image, .int .i64 c.state, .bool c.ending, .string c.berth] 87 wy ∧ wy.cell? ⟨bb, ob + k * 13 + 7, none⟩ = some (.int .i64 v.next)) (by kernel_rfl) ⟨HB3.out, HC3.out, HC7.out⟩ (fun hS => ?_)
    replace HB3 : Hid (Blk w.heap.size #[.int .i64 x.now, .slice (some ⟨bb, ob, none⟩) x.services.length c1, .slice a2 x.copies.length c2, .slice a3 x.berths.length c3] 34 w3.drew) := HB3.out
    replace HC3 : Hid (Blk pc #[.string c.service, .int .i64 c.number, .int .i64 c.version, .int .i64 c.image, .int .i64 c.state, .bool c.ending, .string c.berth] 87 w3.drew) := HC3.out
    replace hB3 : Below w.heap.size w w3.drew := hB3.drew
    generalize w3.drew = wn at *
    refine tz 0 10 (.int .i64 (k : Int)) rfl hS ?_
    simp only [pA,pB,pC,pD]
    refine ty 1 ⟨some 11, _, _, _, _, none⟩ (.bool false) rfl (by rfl) ?_ hS ?_
    ·intro wy hy
     clear hy
     first | (go_simp; done) | (go_simp; omega) | (go_simp; intro hh; omega)
    simp only [pA,pB,pC,pD]
    refine tz 2 12 (.bool false) rfl hS ?_
    simp only [pA,pB,pC,pD]
    refine tz 3 13 (.pointer (some ⟨pc, 1, none⟩)) rfl hS ?_
    simp only [pA,pB,pC,pD]
    refine ty 4 ⟨some 14, _, _, _, _, some (2, false)⟩ (.int .i64 c.number) rfl (by rfl) ?_ hS ?_
    ·intro wy hy
     have h := id hy
     have h0 := h.2.1.cell (o := 1) rfl
     clear hy
     go_simp
    simp only [pA,pB,pC,pD]
    refine tz 5 15 (.pointer (some ⟨w.heap.size, 1, none⟩)) rfl hS ?_
    simp only [pA,pB,pC,pD]
    refine ty 6 ⟨some 16, _, _, _, _, some (2, false)⟩ (.slice (some ⟨bb, ob, none⟩) x.services.length c1) rfl (by rfl) ?_ hS ?_
    ·intro wy hy
     have h := id hy
     have h0 := h.1.cell (o := 1) rfl
     clear hy
     go_simp
    simp only [pA,pB,pC,pD]
    refine tz 7 17 (.int .i64 (k : Int)) rfl hS ?_
    simp only [pA,pB,pC,pD]
    refine ty 8 ⟨some 18, _, _, _, _, some (2, false)⟩ (.pointer (some ⟨bb, ob + k * 13, none⟩)) rfl (by rfl) ?_ hS ?_
    ·intro wy hy
     clear hy
     first | (go_simp; done) | (go_simp; omega) | (go_simp; intro hh; omega)
    simp only [pA,pB,pC,pD]
    refine tz 9 19 (.pointer (some ⟨bb, ob + k * 13 + 7, none⟩)) rfl hS ?_
    simp only [pA,pB,pC,pD]
    refine ty 10 ⟨some 20, _, _, _, _, some (2, false)⟩ (.int .i64 v.next) rfl (by rfl) ?_ hS ?_
    ·intro wy hy
     have h := id hy
     have h0 := h.2.2
     clear hy
     go_simp
    simp only [pA,pB,pC,pD]
    refine ty 11 ⟨some 21, _, _, _, _, some (2, false)⟩ (.int .i64 (v.next - 1)) rfl (by rfl) ?_ hS ?_
    ·intro wy hy
     clear hy
     first | (go_simp; done) | (go_simp; rw [IntKind.wrap_i64]; omega) | (go_simp; omega)
    simp only [pA,pB,pC,pD]
    refine rd1 12 ⟨some 22, _, _, _, _, some (2, false)⟩ rfl (fun KK hKK => ?_)
    go_simp
    refine (in18_any _ _ _ _).mono ?_
    rintro e wn ⟨rfl, rfl⟩
    rw [f0]
    refine hKK.out _ _ hS (fun hS => ?_)
    clear hKK KK
    refine tz 13 23 (.bool false) rfl hS ?_
    simp only [pA,pB,pC,pD]
    refine tz 14 24 (.bool false) rfl hS ?_
    simp only [pA,pB,pC,pD]
    refine tz 15 25 (.bool false) rfl hS ?_
    simp only [pA,pB,pC,pD]
    refine tz 16 26 (.pointer (some ⟨pc, 2, none⟩)) rfl hS ?_
    simp only [pA,pB,pC,pD]
    refine ty 17 ⟨some 27, _, _, _, _, some (15, false)⟩ (.int .i64 c.version) rfl (by rfl) ?_ hS ?_
    ·intro wy hy
     have h := id hy
     have h0 := h.2.1.cell (o := 2) rfl
     clear hy
     go_simp
    simp only [pA,pB,pC,pD]
    refine tz 18 28 (.pointer (some ⟨w.heap.size, 0, none⟩)) rfl hS ?_
    simp only [pA,pB,pC,pD]
    refine ty 19 ⟨some 29, _, _, _, _, some (15, false)⟩ (.int .i64 x.now) rfl (by rfl) ?_ hS ?_
    ·intro wy hy
     have h := id hy
     have h0 := h.1.cell (o := 0) rfl
     clear hy
     go_simp
    simp only [pA,pB,pC,pD]
    refine rd1 20 ⟨some 30, _, _, _, _, some (15, false)⟩ rfl (fun KK hKK => ?_)
    go_simp
    refine (in18_any _ _ _ _).mono ?_
    rintro e wn ⟨rfl, rfl⟩
    rw [f1]
    refine hKK.out _ _ hS (fun hS => ?_)
    clear hKK KK
    refine tz 21 31 (.bool true) rfl hS ?_
    simp only [pA,pB,pC,pD]
    refine tz 22 32 (.bool true) rfl hS ?_
    simp only [pA,pB,pC,pD]
    refine tz 23 33 (.bool true) rfl hS ?_
    simp only [pA,pB,pC,pD]
    refine ts 24 34 rfl hS ?_
    simp only [pA,pB,pC,pD]
    refine ts 25 35 rfl hS ?_
    simp only [pA,pB,pC,pD]
    refine ts 26 36 rfl hS ?_
    simp only [pA,pB,pC,pD]
    refine ts 27 37 rfl hS ?_
    simp only [pA,pB,pC,pD]
    refine tz 28 38 (.bool true) rfl hS ?_
    simp only [pA,pB,pC,pD]
    refine tz 29 39 (.bool true) rfl hS ?_
    simp only [pA,pB,pC,pD]
    refine ts 30 40 rfl hS ?_
    simp only [pA,pB,pC,pD]
    refine ts 31 41 rfl hS ?_
    simp only [pA,pB,pC,pD]
    refine ts 32 42 rfl hS ?_
    simp only [pA,pB,pC,pD]
    refine ts 33 43 rfl hS ?_
    simp only [pA,pB,pC,pD]
    refine tz 34 44 (.bool true) rfl hS ?_
    simp only [pA,pB,pC,pD]
    refine wpAnyH_done (by kernel_rfl) ?_ _
    clear hS
    go_wp2_with fail
    go_ret
    exact ⟨ret_bool (by rw [HE.out, f0, f1]; simp), hB3⟩
   | true =>
    cases f2 : inR c.image 1 1000000 with
    | false =>
     refine wp_region_held_drew (S := fun wy => Blk w.heap.size #[.int .i64 x.now, .slice (some ⟨bb, ob, none⟩) x.services.length c1, .slice a2 x.copies.length c2, .slice a3 x.berths.length c3] 34 wy ∧ Blk pc #[.string c.service, .int .i64 c.number, .int .i64 c.version, .int .i64 c.image, .int .i64 c.state, .bool c.ending, .string c.berth] 87 wy ∧ wy.cell? ⟨bb, ob + k * 13 + 7, none⟩ = some (.int .i64 v.next)) (by kernel_rfl) ⟨HB3.out, HC3.out, HC7.out⟩ (fun hS => ?_)
     replace HB3 : Hid (Blk w.heap.size #[.int .i64 x.now, .slice (some ⟨bb, ob, none⟩) x.services.length c1, .slice a2 x.copies.length c2, .slice a3 x.berths.length c3] 34 w3.drew) := HB3.out
     replace HC3 : Hid (Blk pc #[.string c.service, .int .i64 c.number, .int .i64 c.version, .int .i64 c.image, .int .i64 c.state, .bool c.ending, .string c.berth] 87 w3.drew) := HC3.out
     replace hB3 : Below w.heap.size w w3.drew := hB3.drew
     generalize w3.drew = wn at *
     refine tz 0 10 (.int .i64 (k : Int)) rfl hS ?_
     simp only [pA,pB,pC,pD]
     refine ty 1 ⟨some 11, _, _, _, _, none⟩ (.bool false) rfl (by rfl) ?_ hS ?_
     ·intro wy hy
      clear hy
      first | (go_simp; done) | (go_simp; omega) | (go_simp; intro hh; omega)
     simp only [pA,pB,pC,pD]
     refine tz 2 12 (.bool false) rfl hS ?_
     simp only [pA,pB,pC,pD]
     refine tz 3 13 (.pointer (some ⟨pc, 1, none⟩)) rfl hS ?_
     simp only [pA,pB,pC,pD]
     refine ty 4 ⟨some 14, _, _, _, _, some (2, false)⟩ (.int .i64 c.number) rfl (by rfl) ?_ hS ?_
     ·intro wy hy
      have h := id hy
      have h0 := h.2.1.cell (o := 1) rfl
      clear hy
      go_simp
     simp only [pA,pB,pC,pD]
     refine tz 5 15 (.pointer (some ⟨w.heap.size, 1, none⟩)) rfl hS ?_
     simp only [pA,pB,pC,pD]
     refine ty 6 ⟨some 16, _, _, _, _, some (2, false)⟩ (.slice (some ⟨bb, ob, none⟩) x.services.length c1) rfl (by rfl) ?_ hS ?_
     ·intro wy hy
      have h := id hy
      have h0 := h.1.cell (o := 1) rfl
      clear hy
      go_simp
     simp only [pA,pB,pC,pD]
     refine tz 7 17 (.int .i64 (k : Int)) rfl hS ?_
     simp only [pA,pB,pC,pD]
     refine ty 8 ⟨some 18, _, _, _, _, some (2, false)⟩ (.pointer (some ⟨bb, ob + k * 13, none⟩)) rfl (by rfl) ?_ hS ?_
     ·intro wy hy
      clear hy
      first | (go_simp; done) | (go_simp; omega) | (go_simp; intro hh; omega)
     simp only [pA,pB,pC,pD]
     refine tz 9 19 (.pointer (some ⟨bb, ob + k * 13 + 7, none⟩)) rfl hS ?_
     simp only [pA,pB,pC,pD]
     refine ty 10 ⟨some 20, _, _, _, _, some (2, false)⟩ (.int .i64 v.next) rfl (by rfl) ?_ hS ?_
     ·intro wy hy
      have h := id hy
      have h0 := h.2.2
      clear hy
      go_simp
     simp only [pA,pB,pC,pD]
     refine ty 11 ⟨some 21, _, _, _, _, some (2, false)⟩ (.int .i64 (v.next - 1)) rfl (by rfl) ?_ hS ?_
     ·intro wy hy
      clear hy
      first | (go_simp; done) | (go_simp; rw [IntKind.wrap_i64]; omega) | (go_simp; omega)
     simp only [pA,pB,pC,pD]
     refine rd1 12 ⟨some 22, _, _, _, _, some (2, false)⟩ rfl (fun KK hKK => ?_)
     go_simp
     refine (in18_any _ _ _ _).mono ?_
     rintro e wn ⟨rfl, rfl⟩
     rw [f0]
     refine hKK.out _ _ hS (fun hS => ?_)
     clear hKK KK
     refine tz 13 23 (.bool false) rfl hS ?_
     simp only [pA,pB,pC,pD]
     refine tz 14 24 (.bool false) rfl hS ?_
     simp only [pA,pB,pC,pD]
     refine tz 15 25 (.bool false) rfl hS ?_
     simp only [pA,pB,pC,pD]
     refine tz 16 26 (.pointer (some ⟨pc, 2, none⟩)) rfl hS ?_
     simp only [pA,pB,pC,pD]
     refine ty 17 ⟨some 27, _, _, _, _, some (15, false)⟩ (.int .i64 c.version) rfl (by rfl) ?_ hS ?_
     ·intro wy hy
      have h := id hy
      have h0 := h.2.1.cell (o := 2) rfl
      clear hy
      go_simp
     simp only [pA,pB,pC,pD]
     refine tz 18 28 (.pointer (some ⟨w.heap.size, 0, none⟩)) rfl hS ?_
     simp only [pA,pB,pC,pD]
     refine ty 19 ⟨some 29, _, _, _, _, some (15, false)⟩ (.int .i64 x.now) rfl (by rfl) ?_ hS ?_
     ·intro wy hy
      have h := id hy
      have h0 := h.1.cell (o := 0) rfl
      clear hy
      go_simp
     simp only [pA,pB,pC,pD]
     refine rd1 20 ⟨some 30, _, _, _, _, some (15, false)⟩ rfl (fun KK hKK => ?_)
     go_simp
     refine (in18_any _ _ _ _).mono ?_
     rintro e wn ⟨rfl, rfl⟩
     rw [f1]
     refine hKK.out _ _ hS (fun hS => ?_)
     clear hKK KK
     refine tz 21 31 (.bool false) rfl hS ?_
     simp only [pA,pB,pC,pD]
     refine tz 22 32 (.bool false) rfl hS ?_
     simp only [pA,pB,pC,pD]
     refine tz 23 33 (.bool false) rfl hS ?_
     simp only [pA,pB,pC,pD]
     refine tz 24 34 (.pointer (some ⟨pc, 3, none⟩)) rfl hS ?_
     simp only [pA,pB,pC,pD]
     refine ty 25 ⟨some 35, _, _, _, _, some (23, false)⟩ (.int .i64 c.image) rfl (by rfl) ?_ hS ?_
     ·intro wy hy
      have h := id hy
      have h0 := h.2.1.cell (o := 3) rfl
      clear hy
      go_simp
     simp only [pA,pB,pC,pD]
     refine rd1 26 ⟨some 36, _, _, _, _, some (23, false)⟩ rfl (fun KK hKK => ?_)
     go_simp
     refine (in18_any _ _ _ _).mono ?_
     rintro e wn ⟨rfl, rfl⟩
     rw [f2]
     refine hKK.out _ _ hS (fun hS => ?_)
     clear hKK KK
     refine tz 27 37 (.bool true) rfl hS ?_
     simp only [pA,pB,pC,pD]
     refine tz 28 38 (.bool true) rfl hS ?_
     simp only [pA,pB,pC,pD]
     refine tz 29 39 (.bool true) rfl hS ?_
     simp only [pA,pB,pC,pD]
     refine ts 30 40 rfl hS ?_
     simp only [pA,pB,pC,pD]
     refine ts 31 41 rfl hS ?_
     simp only [pA,pB,pC,pD]
     refine ts 32 42 rfl hS ?_
     simp only [pA,pB,pC,pD]
     refine ts 33 43 rfl hS ?_
     simp only [pA,pB,pC,pD]
     refine tz 34 44 (.bool true) rfl hS ?_
     simp only [pA,pB,pC,pD]
     refine wpAnyH_done (by kernel_rfl) ?_ _
     clear hS
     go_wp2_with fail
     go_ret
     exact ⟨ret_bool (by rw [HE.out, f0, f1, f2]; simp), hB3⟩
    | true =>
     cases f3 : inR c.state 1 4 with
     | false =>
      refine wp_region_held_drew (S := fun wy => Blk w.heap.size #[.int .i64 x.now, .slice (some ⟨bb, ob, none⟩) x.services.length c1, .slice a2 x.copies.length c2, .slice a3 x.berths.length c3] 34 wy ∧ Blk pc #[.string c.service, .int .i64 c.number, .int .i64 c.version, .int .i64 c.image, .int .i64 c.state, .bool c.ending, .string c.berth] 87 wy ∧ wy.cell? ⟨bb, ob + k * 13 + 7, none⟩ = some (.int .i64 v.next)) (by kernel_rfl) ⟨HB3.out, HC3.out, HC7.out⟩ (fun hS => ?_)
      replace HB3 : Hid (Blk w.heap.size #[.int .i64 x.now, .slice (some ⟨bb, ob, none⟩) x.services.length c1, .slice a2 x.copies.length c2, .slice a3 x.berths.length c3] 34 w3.drew) := HB3.out
      replace HC3 : Hid (Blk pc #[.string c.service, .int .i64 c.number, .int .i64 c.version, .int .i64 c.image, .int .i64 c.state, .bool c.ending, .string c.berth] 87 w3.drew) := HC3.out
      replace hB3 : Below w.heap.size w w3.drew := hB3.drew
      generalize w3.drew = wn at *
      refine tz 0 10 (.int .i64 (k : Int)) rfl hS ?_
      simp only [pA,pB,pC,pD]
      refine ty 1 ⟨some 11, _, _, _, _, none⟩ (.bool false) rfl (by rfl) ?_ hS ?_
      ·intro wy hy
       clear hy
       first | (go_simp; done) | (go_simp; omega) | (go_simp; intro hh; omega)
      simp only [pA,pB,pC,pD]
      refine tz 2 12 (.bool false) rfl hS ?_
      simp only [pA,pB,pC,pD]
      refine tz 3 13 (.pointer (some ⟨pc, 1, none⟩)) rfl hS ?_
      simp only [pA,pB,pC,pD]
      refine ty 4 ⟨some 14, _, _, _, _, some (2, false)⟩ (.int .i64 c.number) rfl (by rfl) ?_ hS ?_
      ·intro wy hy
       have h := id hy
       have h0 := h.2.1.cell (o := 1) rfl
       clear hy
       go_simp
      simp only [pA,pB,pC,pD]
      refine tz 5 15 (.pointer (some ⟨w.heap.size, 1, none⟩)) rfl hS ?_
      simp only [pA,pB,pC,pD]
      refine ty 6 ⟨some 16, _, _, _, _, some (2, false)⟩ (.slice (some ⟨bb, ob, none⟩) x.services.length c1) rfl (by rfl) ?_ hS ?_
      ·intro wy hy
       have h := id hy
       have h0 := h.1.cell (o := 1) rfl
       clear hy
       go_simp
      simp only [pA,pB,pC,pD]
      refine tz 7 17 (.int .i64 (k : Int)) rfl hS ?_
      simp only [pA,pB,pC,pD]
      refine ty 8 ⟨some 18, _, _, _, _, some (2, false)⟩ (.pointer (some ⟨bb, ob + k * 13, none⟩)) rfl (by rfl) ?_ hS ?_
      ·intro wy hy
       clear hy
       first | (go_simp; done) | (go_simp; omega) | (go_simp; intro hh; omega)
      simp only [pA,pB,pC,pD]
      refine tz 9 19 (.pointer (some ⟨bb, ob + k * 13 + 7, none⟩)) rfl hS ?_
      simp only [pA,pB,pC,pD]
      refine ty 10 ⟨some 20, _, _, _, _, some (2, false)⟩ (.int .i64 v.next) rfl (by rfl) ?_ hS ?_
      ·intro wy hy
       have h := id hy
       have h0 := h.2.2
       clear hy
       go_simp
      simp only [pA,pB,pC,pD]
      refine ty 11 ⟨some 21, _, _, _, _, some (2, false)⟩ (.int .i64 (v.next - 1)) rfl (by rfl) ?_ hS ?_
      ·intro wy hy
       clear hy
       first | (go_simp; done) | (go_simp; rw [IntKind.wrap_i64]; omega) | (go_simp; omega)
      simp only [pA,pB,pC,pD]
      refine rd1 12 ⟨some 22, _, _, _, _, some (2, false)⟩ rfl (fun KK hKK => ?_)
      go_simp
      refine (in18_any _ _ _ _).mono ?_
      rintro e wn ⟨rfl, rfl⟩
      rw [f0]
      refine hKK.out _ _ hS (fun hS => ?_)
      clear hKK KK
      refine tz 13 23 (.bool false) rfl hS ?_
      simp only [pA,pB,pC,pD]
      refine tz 14 24 (.bool false) rfl hS ?_
      simp only [pA,pB,pC,pD]
      refine tz 15 25 (.bool false) rfl hS ?_
      simp only [pA,pB,pC,pD]
      refine tz 16 26 (.pointer (some ⟨pc, 2, none⟩)) rfl hS ?_
      simp only [pA,pB,pC,pD]
      refine ty 17 ⟨some 27, _, _, _, _, some (15, false)⟩ (.int .i64 c.version) rfl (by rfl) ?_ hS ?_
      ·intro wy hy
       have h := id hy
       have h0 := h.2.1.cell (o := 2) rfl
       clear hy
       go_simp
      simp only [pA,pB,pC,pD]
      refine tz 18 28 (.pointer (some ⟨w.heap.size, 0, none⟩)) rfl hS ?_
      simp only [pA,pB,pC,pD]
      refine ty 19 ⟨some 29, _, _, _, _, some (15, false)⟩ (.int .i64 x.now) rfl (by rfl) ?_ hS ?_
      ·intro wy hy
       have h := id hy
       have h0 := h.1.cell (o := 0) rfl
       clear hy
       go_simp
      simp only [pA,pB,pC,pD]
      refine rd1 20 ⟨some 30, _, _, _, _, some (15, false)⟩ rfl (fun KK hKK => ?_)
      go_simp
      refine (in18_any _ _ _ _).mono ?_
      rintro e wn ⟨rfl, rfl⟩
      rw [f1]
      refine hKK.out _ _ hS (fun hS => ?_)
      clear hKK KK
      refine tz 21 31 (.bool false) rfl hS ?_
      simp only [pA,pB,pC,pD]
      refine tz 22 32 (.bool false) rfl hS ?_
      simp only [pA,pB,pC,pD]
      refine tz 23 33 (.bool false) rfl hS ?_
      simp only [pA,pB,pC,pD]
      refine tz 24 34 (.pointer (some ⟨pc, 3, none⟩)) rfl hS ?_
      simp only [pA,pB,pC,pD]
      refine ty 25 ⟨some 35, _, _, _, _, some (23, false)⟩ (.int .i64 c.image) rfl (by rfl) ?_ hS ?_
      ·intro wy hy
       have h := id hy
       have h0 := h.2.1.cell (o := 3) rfl
       clear hy
       go_simp
      simp only [pA,pB,pC,pD]
      refine rd1 26 ⟨some 36, _, _, _, _, some (23, false)⟩ rfl (fun KK hKK => ?_)
      go_simp
      refine (in18_any _ _ _ _).mono ?_
      rintro e wn ⟨rfl, rfl⟩
      rw [f2]
      refine hKK.out _ _ hS (fun hS => ?_)
      clear hKK KK
      refine tz 27 37 (.bool false) rfl hS ?_
      simp only [pA,pB,pC,pD]
      refine tz 28 38 (.bool false) rfl hS ?_
      simp only [pA,pB,pC,pD]
      refine tz 29 39 (.bool false) rfl hS ?_
      simp only [pA,pB,pC,pD]
      refine tz 30 40 (.pointer (some ⟨pc, 4, none⟩)) rfl hS ?_
      simp only [pA,pB,pC,pD]
      refine ty 31 ⟨some 41, _, _, _, _, some (29, false)⟩ (.int .i64 c.state) rfl (by rfl) ?_ hS ?_
      ·intro wy hy
       have h := id hy
       have h0 := h.2.1.cell (o := 4) rfl
       clear hy
       go_simp
      simp only [pA,pB,pC,pD]
      refine rd1 32 ⟨some 42, _, _, _, _, some (29, false)⟩ rfl (fun KK hKK => ?_)
      go_simp
      refine (in18_any _ _ _ _).mono ?_
      rintro e wn ⟨rfl, rfl⟩
      rw [f3]
      refine hKK.out _ _ hS (fun hS => ?_)
      clear hKK KK
      refine tz 33 43 (.bool true) rfl hS ?_
      simp only [pA,pB,pC,pD]
      refine tz 34 44 (.bool true) rfl hS ?_
      simp only [pA,pB,pC,pD]
      refine wpAnyH_done (by kernel_rfl) ?_ _
      clear hS
      go_wp2_with fail
      go_ret
      exact ⟨ret_bool (by rw [HE.out, f0, f1, f2, f3]; simp), hB3⟩
     | true =>
      refine wp_region_held_drew (S := fun wy => Blk w.heap.size #[.int .i64 x.now, .slice (some ⟨bb, ob, none⟩) x.services.length c1, .slice a2 x.copies.length c2, .slice a3 x.berths.length c3] 34 wy ∧ Blk pc #[.string c.service, .int .i64 c.number, .int .i64 c.version, .int .i64 c.image, .int .i64 c.state, .bool c.ending, .string c.berth] 87 wy ∧ wy.cell? ⟨bb, ob + k * 13 + 7, none⟩ = some (.int .i64 v.next)) (by kernel_rfl) ⟨HB3.out, HC3.out, HC7.out⟩ (fun hS => ?_)
      replace HB3 : Hid (Blk w.heap.size #[.int .i64 x.now, .slice (some ⟨bb, ob, none⟩) x.services.length c1, .slice a2 x.copies.length c2, .slice a3 x.berths.length c3] 34 w3.drew) := HB3.out
      replace HC3 : Hid (Blk pc #[.string c.service, .int .i64 c.number, .int .i64 c.version, .int .i64 c.image, .int .i64 c.state, .bool c.ending, .string c.berth] 87 w3.drew) := HC3.out
      replace hB3 : Below w.heap.size w w3.drew := hB3.drew
      generalize w3.drew = wn at *
      refine tz 0 10 (.int .i64 (k : Int)) rfl hS ?_
      simp only [pA,pB,pC,pD]
      refine ty 1 ⟨some 11, _, _, _, _, none⟩ (.bool false) rfl (by rfl) ?_ hS ?_
      ·intro wy hy
       clear hy
       first | (go_simp; done) | (go_simp; omega) | (go_simp; intro hh; omega)
      simp only [pA,pB,pC,pD]
      refine tz 2 12 (.bool false) rfl hS ?_
      simp only [pA,pB,pC,pD]
      refine tz 3 13 (.pointer (some ⟨pc, 1, none⟩)) rfl hS ?_
      simp only [pA,pB,pC,pD]
      refine ty 4 ⟨some 14, _, _, _, _, some (2, false)⟩ (.int .i64 c.number) rfl (by rfl) ?_ hS ?_
      ·intro wy hy
       have h := id hy
       have h0 := h.2.1.cell (o := 1) rfl
       clear hy
       go_simp
      simp only [pA,pB,pC,pD]
      refine tz 5 15 (.pointer (some ⟨w.heap.size, 1, none⟩)) rfl hS ?_
      simp only [pA,pB,pC,pD]
      refine ty 6 ⟨some 16, _, _, _, _, some (2, false)⟩ (.slice (some ⟨bb, ob, none⟩) x.services.length c1) rfl (by rfl) ?_ hS ?_
      ·intro wy hy
       have h := id hy
       have h0 := h.1.cell (o := 1) rfl
       clear hy
       go_simp
      simp only [pA,pB,pC,pD]
      refine tz 7 17 (.int .i64 (k : Int)) rfl hS ?_
      simp only [pA,pB,pC,pD]
      refine ty 8 ⟨some 18, _, _, _, _, some (2, false)⟩ (.pointer (some ⟨bb, ob + k * 13, none⟩)) rfl (by rfl) ?_ hS ?_
      ·intro wy hy
       clear hy
       first | (go_simp; done) | (go_simp; omega) | (go_simp; intro hh; omega)
      simp only [pA,pB,pC,pD]
      refine tz 9 19 (.pointer (some ⟨bb, ob + k * 13 + 7, none⟩)) rfl hS ?_
      simp only [pA,pB,pC,pD]
      refine ty 10 ⟨some 20, _, _, _, _, some (2, false)⟩ (.int .i64 v.next) rfl (by rfl) ?_ hS ?_
      ·intro wy hy
       have h := id hy
       have h0 := h.2.2
       clear hy
       go_simp
      simp only [pA,pB,pC,pD]
      refine ty 11 ⟨some 21, _, _, _, _, some (2, false)⟩ (.int .i64 (v.next - 1)) rfl (by rfl) ?_ hS ?_
      ·intro wy hy
       clear hy
       first | (go_simp; done) | (go_simp; rw [IntKind.wrap_i64]; omega) | (go_simp; omega)
      simp only [pA,pB,pC,pD]
      refine rd1 12 ⟨some 22, _, _, _, _, some (2, false)⟩ rfl (fun KK hKK => ?_)
      go_simp
      refine (in18_any _ _ _ _).mono ?_
      rintro e wn ⟨rfl, rfl⟩
      rw [f0]
      refine hKK.out _ _ hS (fun hS => ?_)
      clear hKK KK
      refine tz 13 23 (.bool false) rfl hS ?_
      simp only [pA,pB,pC,pD]
      refine tz 14 24 (.bool false) rfl hS ?_
      simp only [pA,pB,pC,pD]
      refine tz 15 25 (.bool false) rfl hS ?_
      simp only [pA,pB,pC,pD]
      refine tz 16 26 (.pointer (some ⟨pc, 2, none⟩)) rfl hS ?_
      simp only [pA,pB,pC,pD]
      refine ty 17 ⟨some 27, _, _, _, _, some (15, false)⟩ (.int .i64 c.version) rfl (by rfl) ?_ hS ?_
      ·intro wy hy
       have h := id hy
       have h0 := h.2.1.cell (o := 2) rfl
       clear hy
       go_simp
      simp only [pA,pB,pC,pD]
      refine tz 18 28 (.pointer (some ⟨w.heap.size, 0, none⟩)) rfl hS ?_
      simp only [pA,pB,pC,pD]
      refine ty 19 ⟨some 29, _, _, _, _, some (15, false)⟩ (.int .i64 x.now) rfl (by rfl) ?_ hS ?_
      ·intro wy hy
       have h := id hy
       have h0 := h.1.cell (o := 0) rfl
       clear hy
       go_simp
      simp only [pA,pB,pC,pD]
      refine rd1 20 ⟨some 30, _, _, _, _, some (15, false)⟩ rfl (fun KK hKK => ?_)
      go_simp
      refine (in18_any _ _ _ _).mono ?_
      rintro e wn ⟨rfl, rfl⟩
      rw [f1]
      refine hKK.out _ _ hS (fun hS => ?_)
      clear hKK KK
      refine tz 21 31 (.bool false) rfl hS ?_
      simp only [pA,pB,pC,pD]
      refine tz 22 32 (.bool false) rfl hS ?_
      simp only [pA,pB,pC,pD]
      refine tz 23 33 (.bool false) rfl hS ?_
      simp only [pA,pB,pC,pD]
      refine tz 24 34 (.pointer (some ⟨pc, 3, none⟩)) rfl hS ?_
      simp only [pA,pB,pC,pD]
      refine ty 25 ⟨some 35, _, _, _, _, some (23, false)⟩ (.int .i64 c.image) rfl (by rfl) ?_ hS ?_
      ·intro wy hy
       have h := id hy
       have h0 := h.2.1.cell (o := 3) rfl
       clear hy
       go_simp
      simp only [pA,pB,pC,pD]
      refine rd1 26 ⟨some 36, _, _, _, _, some (23, false)⟩ rfl (fun KK hKK => ?_)
      go_simp
      refine (in18_any _ _ _ _).mono ?_
      rintro e wn ⟨rfl, rfl⟩
      rw [f2]
      refine hKK.out _ _ hS (fun hS => ?_)
      clear hKK KK
      refine tz 27 37 (.bool false) rfl hS ?_
      simp only [pA,pB,pC,pD]
      refine tz 28 38 (.bool false) rfl hS ?_
      simp only [pA,pB,pC,pD]
      refine tz 29 39 (.bool false) rfl hS ?_
      simp only [pA,pB,pC,pD]
      refine tz 30 40 (.pointer (some ⟨pc, 4, none⟩)) rfl hS ?_
      simp only [pA,pB,pC,pD]
      refine ty 31 ⟨some 41, _, _, _, _, some (29, false)⟩ (.int .i64 c.state) rfl (by rfl) ?_ hS ?_
      ·intro wy hy
       have h := id hy
       have h0 := h.2.1.cell (o := 4) rfl
       clear hy
       go_simp
      simp only [pA,pB,pC,pD]
      refine rd1 32 ⟨some 42, _, _, _, _, some (29, false)⟩ rfl (fun KK hKK => ?_)
      go_simp
      refine (in18_any _ _ _ _).mono ?_
      rintro e wn ⟨rfl, rfl⟩
      rw [f3]
      refine hKK.out _ _ hS (fun hS => ?_)
      clear hKK KK
      refine tz 33 43 (.bool false) rfl hS ?_
      simp only [pA,pB,pC,pD]
      refine tz 34 44 (.bool false) rfl hS ?_
      simp only [pA,pB,pC,pD]
      refine wpAnyH_done (by kernel_rfl) ?_ _
      clear hS
      have HE2 : Hid (cpB x c = ctB x c) := by show _ = _; rw [HE.out, f0, f1, f2, f3]; simp
      clear HE
      have k4 : wn.cell? ⟨pc, 4, none⟩ = some (.int .i64 c.state) := HC3.out.cell rfl
      by_cases hw : c.state = 1
      case pos =>
       have e1 : (c.state == 1) = true := by rw [hw]; rfl
       have k6 : wn.cell? ⟨pc, 6, none⟩ = some (.string c.berth) := HC3.out.cell rfl
       have HT : Hid (ctB x c = (c.berth.toList == [])) := if_pos hw
       clear hw
       go_wp2_with fail
       go_ret
       exact ⟨ret_bool (by rw [HE2.out, HT.out]; cases c.berth.toList <;> rfl), hB3⟩
      have e1 : (c.state == 1) = false := by simpa using hw
      have k6 : wn.cell? ⟨pc, 6, none⟩ = some (.string c.berth) := HC3.out.cell rfl
      have HT : Hid (ctB x c = x.berths.any (fun t => decide (t.name = c.berth))) := if_neg hw
      clear hw
      go_wp2_with (refine wpList_load_mid rfl 34 _ rfl w.heap.size 0 rfl [.int .i64 x.now, .slice (some ⟨bb, ob, none⟩) x.services.length c1, .slice a2 x.copies.length c2, .slice a3 x.berths.length c3] _ HB3.out.rangeA Tryz.underlying34 rfl isz_Sbk ?_)
      refine (berth_at x _ c1 a2 c2 a3 c3 lo c.berth _ (HN3.out.below SbtC.holds hB3 (Nat.le_refl _)) l3).mono ?_
      rintro e w5 ⟨rfl, hb⟩
      have HG : Hid (decide (0 ≤ idxR x.berths c.berth) = x.berths.any (fun t => decide (t.name = c.berth))) := idxR_any _ _
      have hB5 := hB3.trans (hb.mono hB3.size)
      generalize idxR x.berths c.berth = ix at *
      go_wp2_with fail
      go_ret
      exact ⟨ret_bool (by rw [HE2.out, HT.out, ← HG.out]), hB5⟩

end Go.Proofs.YtnggdpjfmpjlhaaGreat
