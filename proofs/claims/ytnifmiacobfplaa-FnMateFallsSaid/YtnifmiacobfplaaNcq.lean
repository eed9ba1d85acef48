import Derived.Test.YtnifmiacobfplaaNcp
namespace Go.Proofs.Ytnifmiacobfplaa
open Go.RowKit

structure MOk (a5 : Option Addr) (n5 c5 : Nat) (a6 : Option Addr) (n6 c6 : Nat) (a7 : Option Addr) (n7 c7 : Nat) (a8 : Option Addr) (n8 c8 : Nat) : Prop where
 e5 : a5 = none → n5 = 0 ∧ c5 = 0
 e6 : a6 = none → n6 = 0 ∧ c6 = 0
 e7 : a7 = none → n7 = 0 ∧ c7 = 0
 e8 : a8 = none → n8 = 0 ∧ c8 = 0
 p5 : ∀ b o s, a5 = some ⟨b, o, s⟩ → s = none
 p6 : ∀ b o s, a6 = some ⟨b, o, s⟩ → s = none
 p7 : ∀ b o s, a7 = some ⟨b, o, s⟩ → s = none
 p8 : ∀ b o s, a8 = some ⟨b, o, s⟩ → s = none

theorem rowok {base n cap : Nat} {a : Option Addr} {w : World} {e : TypeId} {s : Nat} {cs : List Value} (h : w.ownsRow base e s (.slice a n cap) n cs) : (a = none → n = 0 ∧ cap = 0) ∧ ∀ b o sp, a = some ⟨b, o, sp⟩ → sp = none := by
 rcases h.2 with ⟨h1, _⟩ | ⟨g', cap', cur, h1, _⟩
 ·injection h1 with h1 h2 h3
  subst h1
  exact ⟨fun _ => ⟨h2, h3⟩, fun _ _ _ e => (by cases e)⟩
 ·have e2 : a = some ⟨g', 0, none⟩ := by injection h1
  subst e2
  exact ⟨fun e => (by cases e), fun _ _ _ e => (by cases e; rfl)⟩

set_option maxHeartbeats 8000000 in
set_option maxRecDepth 100000 in
theorem newMate_ok (x : Mte) (a5 : Option Addr) (c5 : Nat) (a6 : Option Addr) (c6 : Nat) (a7 : Option Addr) (c7 : Nat) (a8 : Option Addr) (c8 : Nat) (lo : Nat) (w : World) (hin : MSv x lo a5 a6 a7 a8 w) (hm : MSz x) :
  Calls Try.prog 22 #[.agg #[.string x.name, .bool x.up, .int .i64 x.clock, .bool x.known, .int .i64 x.seen, .slice a5 x.wants.length c5, .slice a6 x.runs.length c6, .slice a7 x.asks.length c7, .slice a8 x.gives.length c8]] w fun e w' => ∃ b5 q5 b6 q6 b7 q7 b8 q8, e = .returned (.agg #[.string x.name, .bool x.up, .int .i64 x.clock, .bool x.known, .int .i64 x.seen, .slice b5 x.wants.length q5, .slice b6 x.runs.length q6, .slice b7 x.asks.length q7, .slice b8 x.gives.length q8]) ∧ G4 x w.heap.size w'.heap.size b5 b6 b7 b8 w' ∧ Below w.heap.size w w' ∧ MOk b5 x.wants.length q5 b6 x.runs.length q6 b7 x.asks.length q7 b8 x.gives.length q8 := by
 have HI := Hid.intro hin
 have HM := Hid.intro hm
 have HA5 := Hid.intro hin.p5
 have HA6 := Hid.intro hin.p6
 have HA7 := Hid.intro hin.p7
 have HA8 := Hid.intro hin.p8
 clear hin hm
 have HKa : Blk w.heap.size #[.string x.name, .bool x.up, .int .i64 x.clock, .bool x.known, .int .i64 x.seen, .slice a5 x.wants.length c5, .slice a6 x.runs.length c6, .slice a7 x.asks.length c7, .slice a8 x.gives.length c8] 27 (w.alloc (.cells #[.string x.name, .bool x.up, .int .i64 x.clock, .bool x.known, .int .i64 x.seen, .slice a5 x.wants.length c5, .slice a6 x.runs.length c6, .slice a7 x.asks.length c7, .slice a8 x.gives.length c8] 27)) := Blk.alloc _ _ _
 have HZ2 : Hid (Blk (w.heap.size + 1) #[.string ⟨#[]⟩, .bool false, .int .i64 0, .bool false, .int .i64 0, .slice none 0 0, .slice none 0 0, .slice none 0 0, .slice none 0 0] 27 ((w.alloc (.cells #[.string x.name, .bool x.up, .int .i64 x.clock, .bool x.known, .int .i64 x.seen, .slice a5 x.wants.length c5, .slice a6 x.runs.length c6, .slice a7 x.asks.length c7, .slice a8 x.gives.length c8] 27)).alloc (.cells #[.string ⟨#[]⟩, .bool false, .int .i64 0, .bool false, .int .i64 0, .slice none 0 0, .slice none 0 0, .slice none 0 0, .slice none 0 0] 27))) := by
  have := Blk.alloc (w.alloc (.cells #[.string x.name, .bool x.up, .int .i64 x.clock, .bool x.known, .int .i64 x.seen, .slice a5 x.wants.length c5, .slice a6 x.runs.length c6, .slice a7 x.asks.length c7, .slice a8 x.gives.length c8] 27)) #[.string ⟨#[]⟩, .bool false, .int .i64 0, .bool false, .int .i64 0, .slice none 0 0, .slice none 0 0, .slice none 0 0, .slice none 0 0] 27
  show Blk _ _ _ _
  simpa using this
 have HK2 : Hid (Blk w.heap.size #[.string x.name, .bool x.up, .int .i64 x.clock, .bool x.known, .int .i64 x.seen, .slice a5 x.wants.length c5, .slice a6 x.runs.length c6, .slice a7 x.asks.length c7, .slice a8 x.gives.length c8] 27 ((w.alloc (.cells #[.string x.name, .bool x.up, .int .i64 x.clock, .bool x.known, .int .i64 x.seen, .slice a5 x.wants.length c5, .slice a6 x.runs.length c6, .slice a7 x.asks.length c7, .slice a8 x.gives.length c8] 27)).alloc (.cells #[.string ⟨#[]⟩, .bool false, .int .i64 0, .bool false, .int .i64 0, .slice none 0 0, .slice none 0 0, .slice none 0 0, .slice none 0 0] 27))) := HKa.below ((Below.refl _ _).alloc (Nat.le_refl _) _) HKa.lt
 have hB2 : Below w.heap.size w ((w.alloc (.cells #[.string x.name, .bool x.up, .int .i64 x.clock, .bool x.known, .int .i64 x.seen, .slice a5 x.wants.length c5, .slice a6 x.runs.length c6, .slice a7 x.asks.length c7, .slice a8 x.gives.length c8] 27)).alloc (.cells #[.string ⟨#[]⟩, .bool false, .int .i64 0, .bool false, .int .i64 0, .slice none 0 0, .slice none 0 0, .slice none 0 0, .slice none 0 0] 27)) := by go_grown
 clear HKa
 go_enter Try.func22, Try.ntmps22
 go_upto_region 1 with fail
 generalize (w.alloc (Obj.cells #[.string x.name, .bool x.up, .int .i64 x.clock, .bool x.known, .int .i64 x.seen, .slice a5 x.wants.length c5, .slice a6 x.runs.length c6, .slice a7 x.asks.length c7, .slice a8 x.gives.length c8] 27)).alloc (Obj.cells #[.string ⟨#[]⟩, .bool false, .int .i64 0, .bool false, .int .i64 0, .slice none 0 0, .slice none 0 0, .slice none 0 0, .slice none 0 0] 27) = w2 at *
 have k0 : w2.cell? ⟨w.heap.size, 0, none⟩ = some (.string x.name) := HK2.out.cell rfl
 go_wp2_with fail
 refine (cl3_any x.name _ HM.out.nm).mono ?_
 rintro e w3 ⟨rfl, hb3⟩
 have HK3 := Hid.intro (HK2.out.below hb3 HK2.out.lt)
 have HZ3 := Hid.intro (HZ2.out.below hb3 HZ2.out.lt)
 have hB3 := hB2.trans (hb3.mono hB2.size)
 clear hb3 HK2 HZ2 hB2 k0
 have kx : w3.cell? ⟨w.heap.size, 0, none⟩ = some (.string x.name) := HK3.out.cell rfl
 have fx : w3.frozen? ⟨w.heap.size, 0, none⟩ = false := HK3.out.frozen _
 have HK4 : Hid (Blk w.heap.size #[.string x.name, .bool x.up, .int .i64 x.clock, .bool x.known, .int .i64 x.seen, .slice a5 x.wants.length c5, .slice a6 x.runs.length c6, .slice a7 x.asks.length c7, .slice a8 x.gives.length c8] 27 (w3.setCell ⟨w.heap.size, 0, none⟩ (.string x.name))) := HK3.out.set 0 _
 have HZ4 : Hid (Blk (w.heap.size + 1) #[.string ⟨#[]⟩, .bool false, .int .i64 0, .bool false, .int .i64 0, .slice none 0 0, .slice none 0 0, .slice none 0 0, .slice none 0 0] 27 (w3.setCell ⟨w.heap.size, 0, none⟩ (.string x.name))) := HZ3.out.other (a := ⟨w.heap.size, 0, none⟩) (show w.heap.size + 1 ≠ w.heap.size by omega) _
 have hB4 : Below w.heap.size w (w3.setCell ⟨w.heap.size, 0, none⟩ (.string x.name)) := hB3.setCell (p := ⟨w.heap.size, 0, none⟩) (Nat.le_refl _) _
 have hsz4 : w3.heap.size ≤ (w3.setCell ⟨w.heap.size, 0, none⟩ (.string x.name)).heap.size := by simp [World.setCell]
 clear HK3 HZ3 hB3
 go_upto_region 2 with fail
 clear kx fx
 generalize (w3.setCell ⟨w.heap.size, 0, none⟩ (.string x.name)) = w4 at *
 have k5 : w4.cell? ⟨w.heap.size, 5, none⟩ = some (.slice a5 x.wants.length c5) := HK4.out.cell rfl
 go_wp2_with fail
 clear k5
 refine (eagWnt_any x.wants a5 c5 lo _ (HI.out.s5.below WntC.holds hB4 (Nat.le_refl _)) HM.out.l5 HM.out.z5 HA5.out).mono ?_
 rintro e w5 ⟨b5, q5, rfl, ho, hb⟩
 have ok5 := Hid.intro (rowok ho)
 have hU5 := row_und ho
 obtain ⟨h5, hh5⟩ : ∃ h, h = w4.heap.size := ⟨_, rfl⟩
 have P5 : Hid (SliceC WntC 7 h5 w5 b5 x.wants) := by rw [hh5]; exact rowslWnt ho HM.out.l5 HM.out.z5
 have hgl5 : w.heap.size + 1 < w4.heap.size := HZ4.out.lt
 have hlt5 : w.heap.size + 1 < h5 := by rw [hh5]; exact hgl5
 have HK5 := Hid.intro (HK4.out.below hb HK4.out.lt)
 have HZ5 := Hid.intro (HZ4.out.below hb HZ4.out.lt)
 have hB5 := hB4.trans (hb.mono hB4.size)
 have hs5 := hb.size
 clear ho hb HK4 HZ4 hB4 hgl5
 have kx : w5.cell? ⟨w.heap.size, 5, none⟩ = some (.slice a5 x.wants.length c5) := HK5.out.cell rfl
 have fx : w5.frozen? ⟨w.heap.size, 5, none⟩ = false := HK5.out.frozen _
 have HK6 : Hid (Blk w.heap.size #[.string x.name, .bool x.up, .int .i64 x.clock, .bool x.known, .int .i64 x.seen, .slice b5 x.wants.length q5, .slice a6 x.runs.length c6, .slice a7 x.asks.length c7, .slice a8 x.gives.length c8] 27 (w5.setCell ⟨w.heap.size, 5, none⟩ (.slice b5 x.wants.length q5))) := HK5.out.set 5 _
 have HZ6 : Hid (Blk (w.heap.size + 1) #[.string ⟨#[]⟩, .bool false, .int .i64 0, .bool false, .int .i64 0, .slice none 0 0, .slice none 0 0, .slice none 0 0, .slice none 0 0] 27 (w5.setCell ⟨w.heap.size, 5, none⟩ (.slice b5 x.wants.length q5))) := HZ5.out.other (a := ⟨w.heap.size, 5, none⟩) (show w.heap.size + 1 ≠ w.heap.size by omega) _
 have hB6 : Below w.heap.size w (w5.setCell ⟨w.heap.size, 5, none⟩ (.slice b5 x.wants.length q5)) := hB5.setCell (p := ⟨w.heap.size, 5, none⟩) (Nat.le_refl _) _
 replace P5 : Hid (SliceC WntC 7 h5 (w5.setCell ⟨w.heap.size, 5, none⟩ (.slice b5 x.wants.length q5)) b5 x.wants) := P5.out.keep WntC.holds (Keeps.set (a := ⟨w.heap.size, 5, none⟩) (show w.heap.size < h5 by omega) _) (Nat.le_refl _)
 have hsz6 : w5.heap.size ≤ (w5.setCell ⟨w.heap.size, 5, none⟩ (.slice b5 x.wants.length q5)).heap.size := by simp [World.setCell]
 clear HK5 HZ5 hB5
 go_upto_region 3 with fail
 clear kx fx
 generalize (w5.setCell ⟨w.heap.size, 5, none⟩ (.slice b5 x.wants.length q5)) = w6 at *
 have k6 : w6.cell? ⟨w.heap.size, 6, none⟩ = some (.slice a6 x.runs.length c6) := HK6.out.cell rfl
 go_wp2_with fail
 clear k6
 refine (eagRn_any x.runs a6 c6 lo _ (HI.out.s6.below RnC.holds hB6 (Nat.le_refl _)) HM.out.l6 HM.out.z6 HA6.out).mono ?_
 rintro e w7 ⟨b6, q6, rfl, ho, hb⟩
 have ok6 := Hid.intro (rowok ho)
 have hU6 := row_und ho
 obtain ⟨h6, hh6⟩ : ∃ h, h = w6.heap.size := ⟨_, rfl⟩
 have P6 : Hid (SliceC RnC 11 h6 w7 b6 x.runs) := by rw [hh6]; exact rowslRn ho HM.out.l6 HM.out.z6
 replace P5 := Hid.intro (P5.out.below WntC.holds hb (Nat.le_refl _))
 have hgl6 : w.heap.size + 1 < w6.heap.size := HZ6.out.lt
 have hlt6 : w.heap.size + 1 < h6 := by rw [hh6]; exact hgl6
 have HK7 := Hid.intro (HK6.out.below hb HK6.out.lt)
 have HZ7 := Hid.intro (HZ6.out.below hb HZ6.out.lt)
 have hB7 := hB6.trans (hb.mono hB6.size)
 have hs7 := hb.size
 clear ho hb HK6 HZ6 hB6 hgl6
 have kx : w7.cell? ⟨w.heap.size, 6, none⟩ = some (.slice a6 x.runs.length c6) := HK7.out.cell rfl
 have fx : w7.frozen? ⟨w.heap.size, 6, none⟩ = false := HK7.out.frozen _
 have HK8 : Hid (Blk w.heap.size #[.string x.name, .bool x.up, .int .i64 x.clock, .bool x.known, .int .i64 x.seen, .slice b5 x.wants.length q5, .slice b6 x.runs.length q6, .slice a7 x.asks.length c7, .slice a8 x.gives.length c8] 27 (w7.setCell ⟨w.heap.size, 6, none⟩ (.slice b6 x.runs.length q6))) := HK7.out.set 6 _
 have HZ8 : Hid (Blk (w.heap.size + 1) #[.string ⟨#[]⟩, .bool false, .int .i64 0, .bool false, .int .i64 0, .slice none 0 0, .slice none 0 0, .slice none 0 0, .slice none 0 0] 27 (w7.setCell ⟨w.heap.size, 6, none⟩ (.slice b6 x.runs.length q6))) := HZ7.out.other (a := ⟨w.heap.size, 6, none⟩) (show w.heap.size + 1 ≠ w.heap.size by omega) _
 have hB8 : Below w.heap.size w (w7.setCell ⟨w.heap.size, 6, none⟩ (.slice b6 x.runs.length q6)) := hB7.setCell (p := ⟨w.heap.size, 6, none⟩) (Nat.le_refl _) _
 replace P5 : Hid (SliceC WntC 7 h5 (w7.setCell ⟨w.heap.size, 6, none⟩ (.slice b6 x.runs.length q6)) b5 x.wants) := P5.out.keep WntC.holds (Keeps.set (a := ⟨w.heap.size, 6, none⟩) (show w.heap.size < h5 by omega) _) (Nat.le_refl _)
 replace P6 : Hid (SliceC RnC 11 h6 (w7.setCell ⟨w.heap.size, 6, none⟩ (.slice b6 x.runs.length q6)) b6 x.runs) := P6.out.keep RnC.holds (Keeps.set (a := ⟨w.heap.size, 6, none⟩) (show w.heap.size < h6 by omega) _) (Nat.le_refl _)
 have hsz8 : w7.heap.size ≤ (w7.setCell ⟨w.heap.size, 6, none⟩ (.slice b6 x.runs.length q6)).heap.size := by simp [World.setCell]
 clear HK7 HZ7 hB7
 go_upto_region 4 with fail
 clear kx fx
 generalize (w7.setCell ⟨w.heap.size, 6, none⟩ (.slice b6 x.runs.length q6)) = w8 at *
 have k7 : w8.cell? ⟨w.heap.size, 7, none⟩ = some (.slice a7 x.asks.length c7) := HK8.out.cell rfl
 go_wp2_with fail
 clear k7
 refine (eagAks_any x.asks a7 c7 lo _ (HI.out.s7.below AksC.holds hB8 (Nat.le_refl _)) HM.out.l7 HM.out.z7 HA7.out).mono ?_
 rintro e w9 ⟨b7, q7, rfl, ho, hb⟩
 have ok7 := Hid.intro (rowok ho)
 have hU7 := row_und ho
 obtain ⟨h7, hh7⟩ : ∃ h, h = w8.heap.size := ⟨_, rfl⟩
 have P7 : Hid (SliceC AksC 4 h7 w9 b7 x.asks) := by rw [hh7]; exact rowslAks ho HM.out.l7 HM.out.z7
 replace P5 := Hid.intro (P5.out.below WntC.holds hb (Nat.le_refl _))
 replace P6 := Hid.intro (P6.out.below RnC.holds hb (Nat.le_refl _))
 have hgl7 : w.heap.size + 1 < w8.heap.size := HZ8.out.lt
 have hlt7 : w.heap.size + 1 < h7 := by rw [hh7]; exact hgl7
 have HK9 := Hid.intro (HK8.out.below hb HK8.out.lt)
 have HZ9 := Hid.intro (HZ8.out.below hb HZ8.out.lt)
 have hB9 := hB8.trans (hb.mono hB8.size)
 have hs9 := hb.size
 clear ho hb HK8 HZ8 hB8 hgl7
 have kx : w9.cell? ⟨w.heap.size, 7, none⟩ = some (.slice a7 x.asks.length c7) := HK9.out.cell rfl
 have fx : w9.frozen? ⟨w.heap.size, 7, none⟩ = false := HK9.out.frozen _
 have HK10 : Hid (Blk w.heap.size #[.string x.name, .bool x.up, .int .i64 x.clock, .bool x.known, .int .i64 x.seen, .slice b5 x.wants.length q5, .slice b6 x.runs.length q6, .slice b7 x.asks.length q7, .slice a8 x.gives.length c8] 27 (w9.setCell ⟨w.heap.size, 7, none⟩ (.slice b7 x.asks.length q7))) := HK9.out.set 7 _
 have HZ10 : Hid (Blk (w.heap.size + 1) #[.string ⟨#[]⟩, .bool false, .int .i64 0, .bool false, .int .i64 0, .slice none 0 0, .slice none 0 0, .slice none 0 0, .slice none 0 0] 27 (w9.setCell ⟨w.heap.size, 7, none⟩ (.slice b7 x.asks.length q7))) := HZ9.out.other (a := ⟨w.heap.size, 7, none⟩) (show w.heap.size + 1 ≠ w.heap.size by omega) _
 have hB10 : Below w.heap.size w (w9.setCell ⟨w.heap.size, 7, none⟩ (.slice b7 x.asks.length q7)) := hB9.setCell (p := ⟨w.heap.size, 7, none⟩) (Nat.le_refl _) _
 replace P5 : Hid (SliceC WntC 7 h5 (w9.setCell ⟨w.heap.size, 7, none⟩ (.slice b7 x.asks.length q7)) b5 x.wants) := P5.out.keep WntC.holds (Keeps.set (a := ⟨w.heap.size, 7, none⟩) (show w.heap.size < h5 by omega) _) (Nat.le_refl _)
 replace P6 : Hid (SliceC RnC 11 h6 (w9.setCell ⟨w.heap.size, 7, none⟩ (.slice b7 x.asks.length q7)) b6 x.runs) := P6.out.keep RnC.holds (Keeps.set (a := ⟨w.heap.size, 7, none⟩) (show w.heap.size < h6 by omega) _) (Nat.le_refl _)
 replace P7 : Hid (SliceC AksC 4 h7 (w9.setCell ⟨w.heap.size, 7, none⟩ (.slice b7 x.asks.length q7)) b7 x.asks) := P7.out.keep AksC.holds (Keeps.set (a := ⟨w.heap.size, 7, none⟩) (show w.heap.size < h7 by omega) _) (Nat.le_refl _)
 have hsz10 : w9.heap.size ≤ (w9.setCell ⟨w.heap.size, 7, none⟩ (.slice b7 x.asks.length q7)).heap.size := by simp [World.setCell]
 clear HK9 HZ9 hB9
 go_upto_region 5 with fail
 clear kx fx
 generalize (w9.setCell ⟨w.heap.size, 7, none⟩ (.slice b7 x.asks.length q7)) = w10 at *
 have k8 : w10.cell? ⟨w.heap.size, 8, none⟩ = some (.slice a8 x.gives.length c8) := HK10.out.cell rfl
 go_wp2_with fail
 clear k8
 refine (eagAks_any x.gives a8 c8 lo _ (HI.out.s8.below AksC.holds hB10 (Nat.le_refl _)) HM.out.l8 HM.out.z8 HA8.out).mono ?_
 rintro e w11 ⟨b8, q8, rfl, ho, hb⟩
 have ok8 := Hid.intro (rowok ho)
 have hU8 := row_und ho
 obtain ⟨h8, hh8⟩ : ∃ h, h = w10.heap.size := ⟨_, rfl⟩
 have P8 : Hid (SliceC AksC 4 h8 w11 b8 x.gives) := by rw [hh8]; exact rowslAks ho HM.out.l8 HM.out.z8
 replace P5 := Hid.intro (P5.out.below WntC.holds hb (Nat.le_refl _))
 replace P6 := Hid.intro (P6.out.below RnC.holds hb (Nat.le_refl _))
 replace P7 := Hid.intro (P7.out.below AksC.holds hb (Nat.le_refl _))
 have hgl8 : w.heap.size + 1 < w10.heap.size := HZ10.out.lt
 have hlt8 : w.heap.size + 1 < h8 := by rw [hh8]; exact hgl8
 have HK11 := Hid.intro (HK10.out.below hb HK10.out.lt)
 have HZ11 := Hid.intro (HZ10.out.below hb HZ10.out.lt)
 have hB11 := hB10.trans (hb.mono hB10.size)
 have hs11 := hb.size
 clear ho hb HK10 HZ10 hB10 hgl8
 have kx : w11.cell? ⟨w.heap.size, 8, none⟩ = some (.slice a8 x.gives.length c8) := HK11.out.cell rfl
 have fx : w11.frozen? ⟨w.heap.size, 8, none⟩ = false := HK11.out.frozen _
 have HK12 : Hid (Blk w.heap.size #[.string x.name, .bool x.up, .int .i64 x.clock, .bool x.known, .int .i64 x.seen, .slice b5 x.wants.length q5, .slice b6 x.runs.length q6, .slice b7 x.asks.length q7, .slice b8 x.gives.length q8] 27 (w11.setCell ⟨w.heap.size, 8, none⟩ (.slice b8 x.gives.length q8))) := HK11.out.set 8 _
 have HZ12 : Hid (Blk (w.heap.size + 1) #[.string ⟨#[]⟩, .bool false, .int .i64 0, .bool false, .int .i64 0, .slice none 0 0, .slice none 0 0, .slice none 0 0, .slice none 0 0] 27 (w11.setCell ⟨w.heap.size, 8, none⟩ (.slice b8 x.gives.length q8))) := HZ11.out.other (a := ⟨w.heap.size, 8, none⟩) (show w.heap.size + 1 ≠ w.heap.size by omega) _
 have hB12 : Below w.heap.size w (w11.setCell ⟨w.heap.size, 8, none⟩ (.slice b8 x.gives.length q8)) := hB11.setCell (p := ⟨w.heap.size, 8, none⟩) (Nat.le_refl _) _
 replace P5 : Hid (SliceC WntC 7 h5 (w11.setCell ⟨w.heap.size, 8, none⟩ (.slice b8 x.gives.length q8)) b5 x.wants) := P5.out.keep WntC.holds (Keeps.set (a := ⟨w.heap.size, 8, none⟩) (show w.heap.size < h5 by omega) _) (Nat.le_refl _)
 replace P6 : Hid (SliceC RnC 11 h6 (w11.setCell ⟨w.heap.size, 8, none⟩ (.slice b8 x.gives.length q8)) b6 x.runs) := P6.out.keep RnC.holds (Keeps.set (a := ⟨w.heap.size, 8, none⟩) (show w.heap.size < h6 by omega) _) (Nat.le_refl _)
 replace P7 : Hid (SliceC AksC 4 h7 (w11.setCell ⟨w.heap.size, 8, none⟩ (.slice b8 x.gives.length q8)) b7 x.asks) := P7.out.keep AksC.holds (Keeps.set (a := ⟨w.heap.size, 8, none⟩) (show w.heap.size < h7 by omega) _) (Nat.le_refl _)
 replace P8 : Hid (SliceC AksC 4 h8 (w11.setCell ⟨w.heap.size, 8, none⟩ (.slice b8 x.gives.length q8)) b8 x.gives) := P8.out.keep AksC.holds (Keeps.set (a := ⟨w.heap.size, 8, none⟩) (show w.heap.size < h8 by omega) _) (Nat.le_refl _)
 have hsz12 : w11.heap.size ≤ (w11.setCell ⟨w.heap.size, 8, none⟩ (.slice b8 x.gives.length q8)).heap.size := by simp [World.setCell]
 clear HK11 HZ11 hB11
 go_upto_region 6 with fail
 clear kx fx
 generalize (w11.setCell ⟨w.heap.size, 8, none⟩ (.slice b8 x.gives.length q8)) = w12 at *
 obtain ⟨wf, HE⟩ : ∃ wf, Hid (wf = w12.setCells (w.heap.size + 1) 0 [.string x.name, .bool x.up, .int .i64 x.clock, .bool x.known, .int .i64 x.seen, .slice b5 x.wants.length q5, .slice b6 x.runs.length q6, .slice b7 x.asks.length q7, .slice b8 x.gives.length q8]) := ⟨_, rfl⟩
 have HTS := Hid.intro HZ12.out.there
 have HRf : Hid (wf.rangeAt (w.heap.size + 1) 0 [.string x.name, .bool x.up, .int .i64 x.clock, .bool x.known, .int .i64 x.seen, .slice b5 x.wants.length q5, .slice b6 x.runs.length q6, .slice b7 x.asks.length q7, .slice b8 x.gives.length q8]) := by
  show World.rangeAt _ _ _ _
  rw [HE.out]
  exact World.rangeAt_setCells_same _ _ _ _ HTS.out
 have hBf : Below w.heap.size w wf := by
  rw [HE.out]
  exact below_setCells (by omega) _ _ _ hB12
 have hsf : w12.heap.size ≤ wf.heap.size := by
  rw [HE.out]
  exact (below_setCells (B := 0) (Nat.zero_le _) _ _ _ (Below.refl _ _)).size
 replace P5 : Hid (SliceC WntC 7 h5 wf b5 x.wants) := by
  show SliceC _ _ _ _ _ _
  rw [HE.out]
  exact P5.out.keep WntC.holds (Keeps.setCells (show w.heap.size + 1 < h5 by omega) _ _ _) (Nat.le_refl _)
 replace P6 : Hid (SliceC RnC 11 h6 wf b6 x.runs) := by
  show SliceC _ _ _ _ _ _
  rw [HE.out]
  exact P6.out.keep RnC.holds (Keeps.setCells (show w.heap.size + 1 < h6 by omega) _ _ _) (Nat.le_refl _)
 replace P7 : Hid (SliceC AksC 4 h7 wf b7 x.asks) := by
  show SliceC _ _ _ _ _ _
  rw [HE.out]
  exact P7.out.keep AksC.holds (Keeps.setCells (show w.heap.size + 1 < h7 by omega) _ _ _) (Nat.le_refl _)
 replace P8 : Hid (SliceC AksC 4 h8 wf b8 x.gives) := by
  show SliceC _ _ _ _ _ _
  rw [HE.out]
  exact P8.out.keep AksC.holds (Keeps.setCells (show w.heap.size + 1 < h8 by omega) _ _ _) (Nat.le_refl _)
 clear hB12
 go_wp2_with (first | (refine wpList_load_mid rfl 27 _ rfl w.heap.size 0 rfl [.string x.name, .bool x.up, .int .i64 x.clock, .bool x.known, .int .i64 x.seen, .slice b5 x.wants.length q5, .slice b6 x.runs.length q6, .slice b7 x.asks.length q7, .slice b8 x.gives.length q8] _ HK12.out.rangeA Try.underlying27 rfl isz_Mte ?_) | (refine wpList_store_to rfl 27 _ _ rfl (w.heap.size + 1) 0 #[.string x.name, .bool x.up, .int .i64 x.clock, .bool x.known, .int .i64 x.seen, .slice b5 x.wants.length q5, .slice b6 x.runs.length q6, .slice b7 x.asks.length q7, .slice b8 x.gives.length q8] rfl rfl HTS.out isz_Mte (by simp [Value.oneCell']) wf HE.out ?_))
 exact bodyPost_ret (results_cell_mid rfl _ _ (w.heap.size + 1) [.string x.name, .bool x.up, .int .i64 x.clock, .bool x.known, .int .i64 x.seen, .slice b5 x.wants.length q5, .slice b6 x.runs.length q6, .slice b7 x.asks.length q7, .slice b8 x.gives.length q8] _ rfl HRf.out Try.underlying27 rfl isz_Mte) rfl ⟨b5, q5, b6, q6, b7, q7, b8, q8, rfl, ⟨h6, h7, h8, by omega, by omega, by omega, by omega, Nat.le_refl _, hU5.mono (by omega), hU6.mono (by omega), hU7.mono (by omega), hU8.mono (by omega), P5.out.keep WntC.holds (Keeps.refl _ _) (by omega), P6.out, P7.out, P8.out⟩, hBf, ⟨ok5.out.1, ok6.out.1, ok7.out.1, ok8.out.1, ok5.out.2, ok6.out.2, ok7.out.2, ok8.out.2⟩⟩

end Go.Proofs.Ytnifmiacobfplaa
