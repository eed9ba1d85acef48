import Derived.Test.YtnifmiacobfplaaNcp
import Derived.Laws.AppendOwnNone
namespace Go.Proofs.Ytnifmiacobfplaa
open Go.RowKit

theorem wpList_append_opt {P : Program} {w : World} {ops : Array Oper} {rest : List Oper} {o : Oper} {a : Act} {Q : Exit → Act → World → Prop} (hgd : o.guard = none) (s x : Operand) (t : TypeId)
  (ho : o.op = .call { callee := .builtin .append, args := #[s, x], argTypes := #[t, t] })
  (base : Nat) (e : TypeId) (i : TypeInfo) (z : Value) (size bytes : Nat) (ht : P.underlying t = some (.slice e)) (hi : P.info? e = some i) (hz : i.zero = some z)
  (hsize : i.size = size) (hby : i.bytes = bytes) (hzs : z.cells.size = size) (hsz : 0 < size)
  (v : Value) (n : Nat) (xs : List Value) (hs : a.eval s = v) (hown : w.ownsRow base e size v n xs)
  (ao : Option Addr) (m c : Nat) (news : List Value) (hx : a.eval x = .slice ao m c) (hno : ao = none → m = 0 ∧ c = 0) (hl : news.length = m * size) (hnews : ∀ ad, ao = some ad → ∀ j u, news[j]? = some u → w.cell? (ad.add j) = some u) (h1 : ∀ u ∈ news, u.oneCell' = true)
  (h63 : n + m ≤ maxLen) (hbytes : (n + m) * bytes ≤ 140737488355328) (hbase : base ≤ w.heap.size)
  (h : ∀ v' w', w'.ownsRow base e size v' (n + m) (xs ++ news) → w.grownBy w' v.ownBlock → (v' = .slice none 0 0 ↔ v = .slice none 0 0 ∧ m = 0) → wpList P ops Q rest (a.put o.dst v') w') : wpList P ops Q (o :: rest) a w := by
 cases ao with
 | some ad => exact wpList_append_own w hgd s x t ho base e i z size bytes ht hi hz hsize hby hzs hsz v n xs hs hown ad m c news hx hl (hnews ad rfl) h1 h63 hbytes hbase h
 | none =>
  obtain ⟨rfl, rfl⟩ := hno rfl
  have hn : news = [] := List.length_eq_zero_iff.1 (by omega)
  subst hn
  exact wpList_append_own_none hgd s x t ho base e i size ht hi v n xs hs hown hx (h v w (by simpa using hown) ⟨rfl, rfl, rfl, Nat.le_refl _, fun _ _ _ => rfl⟩ (by simp))

structure MNil (a5 : Option Addr) (n5 c5 : Nat) (a6 : Option Addr) (n6 c6 : Nat) (a7 : Option Addr) (n7 c7 : Nat) (a8 : Option Addr) (n8 c8 : Nat) : Prop where
 e5 : a5 = none → n5 = 0 ∧ c5 = 0
 e6 : a6 = none → n6 = 0 ∧ c6 = 0
 e7 : a7 = none → n7 = 0 ∧ c7 = 0
 e8 : a8 = none → n8 = 0 ∧ c8 = 0

set_option maxHeartbeats 8000000 in
set_option maxRecDepth 100000 in
theorem copy13_any (x : Mte) (a5 : Option Addr) (c5 : Nat) (a6 : Option Addr) (c6 : Nat) (a7 : Option Addr) (c7 : Nat) (a8 : Option Addr) (c8 : Nat) (lo : Nat) (w : World) (hin : MSv x lo a5 a6 a7 a8 w) (hv : MNil a5 x.wants.length c5 a6 x.runs.length c6 a7 x.asks.length c7 a8 x.gives.length c8) (hm : MSz x) :
  Calls Try.prog 25 #[.agg #[.string x.name, .bool x.up, .int .i64 x.clock, .bool x.known, .int .i64 x.seen, .slice a5 x.wants.length c5, .slice a6 x.runs.length c6, .slice a7 x.asks.length c7, .slice a8 x.gives.length c8]] w fun e w' => ∃ b5 q5 b6 q6 b7 q7 b8 q8, e = .returned (.agg #[.string x.name, .bool x.up, .int .i64 x.clock, .bool x.known, .int .i64 x.seen, .slice (some ⟨b5, 0, none⟩) x.wants.length q5, .slice (some ⟨b6, 0, none⟩) x.runs.length q6, .slice (some ⟨b7, 0, none⟩) x.asks.length q7, .slice (some ⟨b8, 0, none⟩) x.gives.length q8]) ∧ SliceC WntC 7 w.heap.size w' (some ⟨b5, 0, none⟩) x.wants ∧ SliceC RnC 11 w.heap.size w' (some ⟨b6, 0, none⟩) x.runs ∧ SliceC AksC 4 w.heap.size w' (some ⟨b7, 0, none⟩) x.asks ∧ SliceC AksC 4 w.heap.size w' (some ⟨b8, 0, none⟩) x.gives ∧ Below w.heap.size w w' := by
 obtain ⟨iWnt, hiWnt, hz0Wnt, hz1Wnt, hz2Wnt⟩ := info_parts info_Wnt
 obtain ⟨iRn, hiRn, hz0Rn, hz1Rn, hz2Rn⟩ := info_parts info_Rn
 obtain ⟨iAks, hiAks, hz0Aks, hz1Aks, hz2Aks⟩ := info_parts info_Aks
 have HI := Hid.intro hin
 have HM := Hid.intro hm
 have HV := Hid.intro hv
 clear hin hm hv
 have HKa : Blk w.heap.size #[.string x.name, .bool x.up, .int .i64 x.clock, .bool x.known, .int .i64 x.seen, .slice a5 x.wants.length c5, .slice a6 x.runs.length c6, .slice a7 x.asks.length c7, .slice a8 x.gives.length c8] 27 (w.alloc (.cells #[.string x.name, .bool x.up, .int .i64 x.clock, .bool x.known, .int .i64 x.seen, .slice a5 x.wants.length c5, .slice a6 x.runs.length c6, .slice a7 x.asks.length c7, .slice a8 x.gives.length c8] 27)) := Blk.alloc _ _ _
 have HZ2 : Hid (Blk (w.heap.size + 1) #[.string ⟨#[]⟩, .bool false, .int .i64 0, .bool false, .int .i64 0, .slice none 0 0, .slice none 0 0, .slice none 0 0, .slice none 0 0] 27 ((w.alloc (.cells #[.string x.name, .bool x.up, .int .i64 x.clock, .bool x.known, .int .i64 x.seen, .slice a5 x.wants.length c5, .slice a6 x.runs.length c6, .slice a7 x.asks.length c7, .slice a8 x.gives.length c8] 27)).alloc (.cells #[.string ⟨#[]⟩, .bool false, .int .i64 0, .bool false, .int .i64 0, .slice none 0 0, .slice none 0 0, .slice none 0 0, .slice none 0 0] 27))) := by
  have := Blk.alloc (w.alloc (.cells #[.string x.name, .bool x.up, .int .i64 x.clock, .bool x.known, .int .i64 x.seen, .slice a5 x.wants.length c5, .slice a6 x.runs.length c6, .slice a7 x.asks.length c7, .slice a8 x.gives.length c8] 27)) #[.string ⟨#[]⟩, .bool false, .int .i64 0, .bool false, .int .i64 0, .slice none 0 0, .slice none 0 0, .slice none 0 0, .slice none 0 0] 27
  show Blk _ _ _ _
  simpa using this
 have HK2 : Hid (Blk w.heap.size #[.string x.name, .bool x.up, .int .i64 x.clock, .bool x.known, .int .i64 x.seen, .slice a5 x.wants.length c5, .slice a6 x.runs.length c6, .slice a7 x.asks.length c7, .slice a8 x.gives.length c8] 27 ((w.alloc (.cells #[.string x.name, .bool x.up, .int .i64 x.clock, .bool x.known, .int .i64 x.seen, .slice a5 x.wants.length c5, .slice a6 x.runs.length c6, .slice a7 x.asks.length c7, .slice a8 x.gives.length c8] 27)).alloc (.cells #[.string ⟨#[]⟩, .bool false, .int .i64 0, .bool false, .int .i64 0, .slice none 0 0, .slice none 0 0, .slice none 0 0, .slice none 0 0] 27))) := HKa.below ((Below.refl _ _).alloc (Nat.le_refl _) _) HKa.lt
 have hB2 : Below w.heap.size w ((w.alloc (.cells #[.string x.name, .bool x.up, .int .i64 x.clock, .bool x.known, .int .i64 x.seen, .slice a5 x.wants.length c5, .slice a6 x.runs.length c6, .slice a7 x.asks.length c7, .slice a8 x.gives.length c8] 27)).alloc (.cells #[.string ⟨#[]⟩, .bool false, .int .i64 0, .bool false, .int .i64 0, .slice none 0 0, .slice none 0 0, .slice none 0 0, .slice none 0 0] 27)) := by go_grown
 clear HKa
 go_enter Try.func25, Try.ntmps25
 go_upto_region 1 with fail
 generalize (w.alloc (Obj.cells #[.string x.name, .bool x.up, .int .i64 x.clock, .bool x.known, .int .i64 x.seen, .slice a5 x.wants.length c5, .slice a6 x.runs.length c6, .slice a7 x.asks.length c7, .slice a8 x.gives.length c8] 27)).alloc (Obj.cells #[.string ⟨#[]⟩, .bool false, .int .i64 0, .bool false, .int .i64 0, .slice none 0 0, .slice none 0 0, .slice none 0 0, .slice none 0 0] 27) = w2 at *
 have k5 : (w2.alloc (Obj.cells #[] 36)).cell? ⟨w.heap.size, 5, none⟩ = some (.slice a5 x.wants.length c5) := (World.cell?_alloc_lt _ _ _ HK2.out.lt).trans (HK2.out.cell rfl)
 have hba : Below w2.heap.size w2 (w2.alloc (Obj.cells #[] 36)) := (Below.refl _ _).alloc (Nat.le_refl _) _
 have hBa := hB2.trans (hba.mono hB2.size)
 have HS5 := Hid.intro (HI.out.s5.below WntC.holds hBa (Nat.le_refl _))
 have HN5 : Hid (∀ ad, a5 = some ad → ∀ j u, (rvWnt x.wants)[j]? = some u → (w2.alloc (Obj.cells #[] 36)).cell? (ad.add j) = some u) := fun ad e j u hu => by
  obtain ⟨b, o, s⟩ := ad
  have hs := HI.out.p5 b o s e
  subst hs
  exact newsWnt (e ▸ HS5.out) j u hu
 have hl5 := HM.out.l5
 have hgl : w.heap.size + 1 < w2.heap.size := HZ2.out.lt
 clear hba hBa HS5
 go_upto_region 2 with (at_builtin; refine wpList_append_opt rfl _ _ 23 rfl w2.heap.size 36 iWnt _ 7 72 Try.underlying23 hiWnt hz0Wnt hz1Wnt hz2Wnt rfl (by decide) _ _ _ rfl (World.ownsRow_made w2 #[] 0 (Nat.le_refl _) (Nat.zero_le _) rfl) a5 x.wants.length c5 (rvWnt x.wants) rfl HV.out.e5 (by rw [rvWnt_len]) HN5.out (rvWnt_one x.wants) (by unfold maxLen; omega) (by omega) (by simp) ?_; intro v' w3 hown hgrow hnil; have hv : v' ≠ .slice none 0 0 := (fun e => by have h9 := (hnil.1 e).1; cases h9); have hown' : w3.ownsRow w2.heap.size 36 7 v' x.wants.length (rvWnt x.wants) := (by simpa using hown); obtain ⟨b5, q5, rfl⟩ := rowf hown' hv; have hb : Below w2.heap.size w2 w3 := ((Below.refl _ w2).alloc (Nat.le_refl _) _).grown hgrow (by simp) (by intro k hk; cases hk; exact Nat.le_refl _); have HK3 := Hid.intro (HK2.out.below hb HK2.out.lt); have kx : w3.cell? ⟨w.heap.size, 5, none⟩ = some (.slice a5 x.wants.length c5) := HK3.out.cell rfl; have fx : w3.frozen? ⟨w.heap.size, 5, none⟩ = false := HK3.out.frozen _; have HOW := Hid.intro hown'; have HBB := Hid.intro hb; clear hown hown' hgrow hnil hv hb)
 clear kx fx k5 HN5
 obtain ⟨h5, hh5⟩ : ∃ h, h = w2.heap.size := ⟨_, rfl⟩
 have P5 : Hid (SliceC WntC 7 h5 w3 (some ⟨b5, 0, none⟩) x.wants) := by rw [hh5]; exact rowslWnt HOW.out HM.out.l5 HM.out.z5
 have hlt5 : w.heap.size + 1 < h5 := by rw [hh5]; exact hgl
 have HZ3 := Hid.intro (HZ2.out.below HBB.out HZ2.out.lt)
 have hB3 := hB2.trans (HBB.out.mono hB2.size)
 clear HOW HBB HK2 HZ2 hB2 hgl
 have HK4 : Hid (Blk w.heap.size #[.string x.name, .bool x.up, .int .i64 x.clock, .bool x.known, .int .i64 x.seen, .slice (some ⟨b5, 0, none⟩) x.wants.length q5, .slice a6 x.runs.length c6, .slice a7 x.asks.length c7, .slice a8 x.gives.length c8] 27 (w3.setCell ⟨w.heap.size, 5, none⟩ (.slice (some ⟨b5, 0, none⟩) x.wants.length q5))) := HK3.out.set 5 _
 have HZ4 : Hid (Blk (w.heap.size + 1) #[.string ⟨#[]⟩, .bool false, .int .i64 0, .bool false, .int .i64 0, .slice none 0 0, .slice none 0 0, .slice none 0 0, .slice none 0 0] 27 (w3.setCell ⟨w.heap.size, 5, none⟩ (.slice (some ⟨b5, 0, none⟩) x.wants.length q5))) := HZ3.out.other (a := ⟨w.heap.size, 5, none⟩) (show w.heap.size + 1 ≠ w.heap.size by omega) _
 have hB4 : Below w.heap.size w (w3.setCell ⟨w.heap.size, 5, none⟩ (.slice (some ⟨b5, 0, none⟩) x.wants.length q5)) := hB3.setCell (p := ⟨w.heap.size, 5, none⟩) (Nat.le_refl _) _
 replace P5 : Hid (SliceC WntC 7 h5 (w3.setCell ⟨w.heap.size, 5, none⟩ (.slice (some ⟨b5, 0, none⟩) x.wants.length q5)) (some ⟨b5, 0, none⟩) x.wants) := P5.out.keep WntC.holds (Keeps.set (a := ⟨w.heap.size, 5, none⟩) (show w.heap.size < h5 by omega) _) (Nat.le_refl _)
 clear HK3 HZ3 hB3
 generalize (w3.setCell ⟨w.heap.size, 5, none⟩ (.slice (some ⟨b5, 0, none⟩) x.wants.length q5)) = w4 at *
 have k6 : (w4.alloc (Obj.cells #[] 38)).cell? ⟨w.heap.size, 6, none⟩ = some (.slice a6 x.runs.length c6) := (World.cell?_alloc_lt _ _ _ HK4.out.lt).trans (HK4.out.cell rfl)
 have hba : Below w4.heap.size w4 (w4.alloc (Obj.cells #[] 38)) := (Below.refl _ _).alloc (Nat.le_refl _) _
 have hBa := hB4.trans (hba.mono hB4.size)
 have HS6 := Hid.intro (HI.out.s6.below RnC.holds hBa (Nat.le_refl _))
 have HN6 : Hid (∀ ad, a6 = some ad → ∀ j u, (rvRn x.runs)[j]? = some u → (w4.alloc (Obj.cells #[] 38)).cell? (ad.add j) = some u) := fun ad e j u hu => by
  obtain ⟨b, o, s⟩ := ad
  have hs := HI.out.p6 b o s e
  subst hs
  exact newsRn (e ▸ HS6.out) j u hu
 have hl6 := HM.out.l6
 have hgl : w.heap.size + 1 < w4.heap.size := HZ4.out.lt
 clear hba hBa HS6
 go_upto_region 3 with (at_builtin; refine wpList_append_opt rfl _ _ 24 rfl w4.heap.size 38 iRn _ 11 104 Try.underlying24 hiRn hz0Rn hz1Rn hz2Rn rfl (by decide) _ _ _ rfl (World.ownsRow_made w4 #[] 0 (Nat.le_refl _) (Nat.zero_le _) rfl) a6 x.runs.length c6 (rvRn x.runs) rfl HV.out.e6 (by rw [rvRn_len]) HN6.out (rvRn_one x.runs) (by unfold maxLen; omega) (by omega) (by simp) ?_; intro v' w5 hown hgrow hnil; have hv : v' ≠ .slice none 0 0 := (fun e => by have h9 := (hnil.1 e).1; cases h9); have hown' : w5.ownsRow w4.heap.size 38 11 v' x.runs.length (rvRn x.runs) := (by simpa using hown); obtain ⟨b6, q6, rfl⟩ := rowf hown' hv; have hb : Below w4.heap.size w4 w5 := ((Below.refl _ w4).alloc (Nat.le_refl _) _).grown hgrow (by simp) (by intro k hk; cases hk; exact Nat.le_refl _); have HK5 := Hid.intro (HK4.out.below hb HK4.out.lt); have kx : w5.cell? ⟨w.heap.size, 6, none⟩ = some (.slice a6 x.runs.length c6) := HK5.out.cell rfl; have fx : w5.frozen? ⟨w.heap.size, 6, none⟩ = false := HK5.out.frozen _; have HOW := Hid.intro hown'; have HBB := Hid.intro hb; clear hown hown' hgrow hnil hv hb)
 clear kx fx k6 HN6
 obtain ⟨h6, hh6⟩ : ∃ h, h = w4.heap.size := ⟨_, rfl⟩
 have P6 : Hid (SliceC RnC 11 h6 w5 (some ⟨b6, 0, none⟩) x.runs) := by rw [hh6]; exact rowslRn HOW.out HM.out.l6 HM.out.z6
 replace P5 := Hid.intro (P5.out.below WntC.holds HBB.out (Nat.le_refl _))
 have hlt6 : w.heap.size + 1 < h6 := by rw [hh6]; exact hgl
 have HZ5 := Hid.intro (HZ4.out.below HBB.out HZ4.out.lt)
 have hB5 := hB4.trans (HBB.out.mono hB4.size)
 clear HOW HBB HK4 HZ4 hB4 hgl
 have HK6 : Hid (Blk w.heap.size #[.string x.name, .bool x.up, .int .i64 x.clock, .bool x.known, .int .i64 x.seen, .slice (some ⟨b5, 0, none⟩) x.wants.length q5, .slice (some ⟨b6, 0, none⟩) x.runs.length q6, .slice a7 x.asks.length c7, .slice a8 x.gives.length c8] 27 (w5.setCell ⟨w.heap.size, 6, none⟩ (.slice (some ⟨b6, 0, none⟩) x.runs.length q6))) := HK5.out.set 6 _
 have HZ6 : Hid (Blk (w.heap.size + 1) #[.string ⟨#[]⟩, .bool false, .int .i64 0, .bool false, .int .i64 0, .slice none 0 0, .slice none 0 0, .slice none 0 0, .slice none 0 0] 27 (w5.setCell ⟨w.heap.size, 6, none⟩ (.slice (some ⟨b6, 0, none⟩) x.runs.length q6))) := HZ5.out.other (a := ⟨w.heap.size, 6, none⟩) (show w.heap.size + 1 ≠ w.heap.size by omega) _
 have hB6 : Below w.heap.size w (w5.setCell ⟨w.heap.size, 6, none⟩ (.slice (some ⟨b6, 0, none⟩) x.runs.length q6)) := hB5.setCell (p := ⟨w.heap.size, 6, none⟩) (Nat.le_refl _) _
 replace P5 : Hid (SliceC WntC 7 h5 (w5.setCell ⟨w.heap.size, 6, none⟩ (.slice (some ⟨b6, 0, none⟩) x.runs.length q6)) (some ⟨b5, 0, none⟩) x.wants) := P5.out.keep WntC.holds (Keeps.set (a := ⟨w.heap.size, 6, none⟩) (show w.heap.size < h5 by omega) _) (Nat.le_refl _)
 replace P6 : Hid (SliceC RnC 11 h6 (w5.setCell ⟨w.heap.size, 6, none⟩ (.slice (some ⟨b6, 0, none⟩) x.runs.length q6)) (some ⟨b6, 0, none⟩) x.runs) := P6.out.keep RnC.holds (Keeps.set (a := ⟨w.heap.size, 6, none⟩) (show w.heap.size < h6 by omega) _) (Nat.le_refl _)
 clear HK5 HZ5 hB5
 generalize (w5.setCell ⟨w.heap.size, 6, none⟩ (.slice (some ⟨b6, 0, none⟩) x.runs.length q6)) = w6 at *
 have k7 : (w6.alloc (Obj.cells #[] 57)).cell? ⟨w.heap.size, 7, none⟩ = some (.slice a7 x.asks.length c7) := (World.cell?_alloc_lt _ _ _ HK6.out.lt).trans (HK6.out.cell rfl)
 have hba : Below w6.heap.size w6 (w6.alloc (Obj.cells #[] 57)) := (Below.refl _ _).alloc (Nat.le_refl _) _
 have hBa := hB6.trans (hba.mono hB6.size)
 have HS7 := Hid.intro (HI.out.s7.below AksC.holds hBa (Nat.le_refl _))
 have HN7 : Hid (∀ ad, a7 = some ad → ∀ j u, (rvAks x.asks)[j]? = some u → (w6.alloc (Obj.cells #[] 57)).cell? (ad.add j) = some u) := fun ad e j u hu => by
  obtain ⟨b, o, s⟩ := ad
  have hs := HI.out.p7 b o s e
  subst hs
  exact newsAks (e ▸ HS7.out) j u hu
 have hl7 := HM.out.l7
 have hgl : w.heap.size + 1 < w6.heap.size := HZ6.out.lt
 clear hba hBa HS7
 go_upto_region 4 with (at_builtin; refine wpList_append_opt rfl _ _ 25 rfl w6.heap.size 57 iAks _ 4 48 Try.underlying25 hiAks hz0Aks hz1Aks hz2Aks rfl (by decide) _ _ _ rfl (World.ownsRow_made w6 #[] 0 (Nat.le_refl _) (Nat.zero_le _) rfl) a7 x.asks.length c7 (rvAks x.asks) rfl HV.out.e7 (by rw [rvAks_len]) HN7.out (rvAks_one x.asks) (by unfold maxLen; omega) (by omega) (by simp) ?_; intro v' w7 hown hgrow hnil; have hv : v' ≠ .slice none 0 0 := (fun e => by have h9 := (hnil.1 e).1; cases h9); have hown' : w7.ownsRow w6.heap.size 57 4 v' x.asks.length (rvAks x.asks) := (by simpa using hown); obtain ⟨b7, q7, rfl⟩ := rowf hown' hv; have hb : Below w6.heap.size w6 w7 := ((Below.refl _ w6).alloc (Nat.le_refl _) _).grown hgrow (by simp) (by intro k hk; cases hk; exact Nat.le_refl _); have HK7 := Hid.intro (HK6.out.below hb HK6.out.lt); have kx : w7.cell? ⟨w.heap.size, 7, none⟩ = some (.slice a7 x.asks.length c7) := HK7.out.cell rfl; have fx : w7.frozen? ⟨w.heap.size, 7, none⟩ = false := HK7.out.frozen _; have HOW := Hid.intro hown'; have HBB := Hid.intro hb; clear hown hown' hgrow hnil hv hb)
 clear kx fx k7 HN7
 obtain ⟨h7, hh7⟩ : ∃ h, h = w6.heap.size := ⟨_, rfl⟩
 have P7 : Hid (SliceC AksC 4 h7 w7 (some ⟨b7, 0, none⟩) x.asks) := by rw [hh7]; exact rowslAks HOW.out HM.out.l7 HM.out.z7
 replace P5 := Hid.intro (P5.out.below WntC.holds HBB.out (Nat.le_refl _))
 replace P6 := Hid.intro (P6.out.below RnC.holds HBB.out (Nat.le_refl _))
 have hlt7 : w.heap.size + 1 < h7 := by rw [hh7]; exact hgl
 have HZ7 := Hid.intro (HZ6.out.below HBB.out HZ6.out.lt)
 have hB7 := hB6.trans (HBB.out.mono hB6.size)
 clear HOW HBB HK6 HZ6 hB6 hgl
 have HK8 : Hid (Blk w.heap.size #[.string x.name, .bool x.up, .int .i64 x.clock, .bool x.known, .int .i64 x.seen, .slice (some ⟨b5, 0, none⟩) x.wants.length q5, .slice (some ⟨b6, 0, none⟩) x.runs.length q6, .slice (some ⟨b7, 0, none⟩) x.asks.length q7, .slice a8 x.gives.length c8] 27 (w7.setCell ⟨w.heap.size, 7, none⟩ (.slice (some ⟨b7, 0, none⟩) x.asks.length q7))) := HK7.out.set 7 _
 have HZ8 : Hid (Blk (w.heap.size + 1) #[.string ⟨#[]⟩, .bool false, .int .i64 0, .bool false, .int .i64 0, .slice none 0 0, .slice none 0 0, .slice none 0 0, .slice none 0 0] 27 (w7.setCell ⟨w.heap.size, 7, none⟩ (.slice (some ⟨b7, 0, none⟩) x.asks.length q7))) := HZ7.out.other (a := ⟨w.heap.size, 7, none⟩) (show w.heap.size + 1 ≠ w.heap.size by omega) _
 have hB8 : Below w.heap.size w (w7.setCell ⟨w.heap.size, 7, none⟩ (.slice (some ⟨b7, 0, none⟩) x.asks.length q7)) := hB7.setCell (p := ⟨w.heap.size, 7, none⟩) (Nat.le_refl _) _
 replace P5 : Hid (SliceC WntC 7 h5 (w7.setCell ⟨w.heap.size, 7, none⟩ (.slice (some ⟨b7, 0, none⟩) x.asks.length q7)) (some ⟨b5, 0, none⟩) x.wants) := P5.out.keep WntC.holds (Keeps.set (a := ⟨w.heap.size, 7, none⟩) (show w.heap.size < h5 by omega) _) (Nat.le_refl _)
 replace P6 : Hid (SliceC RnC 11 h6 (w7.setCell ⟨w.heap.size, 7, none⟩ (.slice (some ⟨b7, 0, none⟩) x.asks.length q7)) (some ⟨b6, 0, none⟩) x.runs) := P6.out.keep RnC.holds (Keeps.set (a := ⟨w.heap.size, 7, none⟩) (show w.heap.size < h6 by omega) _) (Nat.le_refl _)
 replace P7 : Hid (SliceC AksC 4 h7 (w7.setCell ⟨w.heap.size, 7, none⟩ (.slice (some ⟨b7, 0, none⟩) x.asks.length q7)) (some ⟨b7, 0, none⟩) x.asks) := P7.out.keep AksC.holds (Keeps.set (a := ⟨w.heap.size, 7, none⟩) (show w.heap.size < h7 by omega) _) (Nat.le_refl _)
 clear HK7 HZ7 hB7
 generalize (w7.setCell ⟨w.heap.size, 7, none⟩ (.slice (some ⟨b7, 0, none⟩) x.asks.length q7)) = w8 at *
 have k8 : (w8.alloc (Obj.cells #[] 57)).cell? ⟨w.heap.size, 8, none⟩ = some (.slice a8 x.gives.length c8) := (World.cell?_alloc_lt _ _ _ HK8.out.lt).trans (HK8.out.cell rfl)
 have hba : Below w8.heap.size w8 (w8.alloc (Obj.cells #[] 57)) := (Below.refl _ _).alloc (Nat.le_refl _) _
 have hBa := hB8.trans (hba.mono hB8.size)
 have HS8 := Hid.intro (HI.out.s8.below AksC.holds hBa (Nat.le_refl _))
 have HN8 : Hid (∀ ad, a8 = some ad → ∀ j u, (rvAks x.gives)[j]? = some u → (w8.alloc (Obj.cells #[] 57)).cell? (ad.add j) = some u) := fun ad e j u hu => by
  obtain ⟨b, o, s⟩ := ad
  have hs := HI.out.p8 b o s e
  subst hs
  exact newsAks (e ▸ HS8.out) j u hu
 have hl8 := HM.out.l8
 have hgl : w.heap.size + 1 < w8.heap.size := HZ8.out.lt
 clear hba hBa HS8
 go_upto_region 5 with (at_builtin; refine wpList_append_opt rfl _ _ 25 rfl w8.heap.size 57 iAks _ 4 48 Try.underlying25 hiAks hz0Aks hz1Aks hz2Aks rfl (by decide) _ _ _ rfl (World.ownsRow_made w8 #[] 0 (Nat.le_refl _) (Nat.zero_le _) rfl) a8 x.gives.length c8 (rvAks x.gives) rfl HV.out.e8 (by rw [rvAks_len]) HN8.out (rvAks_one x.gives) (by unfold maxLen; omega) (by omega) (by simp) ?_; intro v' w9 hown hgrow hnil; have hv : v' ≠ .slice none 0 0 := (fun e => by have h9 := (hnil.1 e).1; cases h9); have hown' : w9.ownsRow w8.heap.size 57 4 v' x.gives.length (rvAks x.gives) := (by simpa using hown); obtain ⟨b8, q8, rfl⟩ := rowf hown' hv; have hb : Below w8.heap.size w8 w9 := ((Below.refl _ w8).alloc (Nat.le_refl _) _).grown hgrow (by simp) (by intro k hk; cases hk; exact Nat.le_refl _); have HK9 := Hid.intro (HK8.out.below hb HK8.out.lt); have kx : w9.cell? ⟨w.heap.size, 8, none⟩ = some (.slice a8 x.gives.length c8) := HK9.out.cell rfl; have fx : w9.frozen? ⟨w.heap.size, 8, none⟩ = false := HK9.out.frozen _; have HOW := Hid.intro hown'; have HBB := Hid.intro hb; clear hown hown' hgrow hnil hv hb)
 clear kx fx k8 HN8
 obtain ⟨h8, hh8⟩ : ∃ h, h = w8.heap.size := ⟨_, rfl⟩
 have P8 : Hid (SliceC AksC 4 h8 w9 (some ⟨b8, 0, none⟩) x.gives) := by rw [hh8]; exact rowslAks HOW.out HM.out.l8 HM.out.z8
 replace P5 := Hid.intro (P5.out.below WntC.holds HBB.out (Nat.le_refl _))
 replace P6 := Hid.intro (P6.out.below RnC.holds HBB.out (Nat.le_refl _))
 replace P7 := Hid.intro (P7.out.below AksC.holds HBB.out (Nat.le_refl _))
 have hlt8 : w.heap.size + 1 < h8 := by rw [hh8]; exact hgl
 have HZ9 := Hid.intro (HZ8.out.below HBB.out HZ8.out.lt)
 have hB9 := hB8.trans (HBB.out.mono hB8.size)
 clear HOW HBB HK8 HZ8 hB8 hgl
 have HK10 : Hid (Blk w.heap.size #[.string x.name, .bool x.up, .int .i64 x.clock, .bool x.known, .int .i64 x.seen, .slice (some ⟨b5, 0, none⟩) x.wants.length q5, .slice (some ⟨b6, 0, none⟩) x.runs.length q6, .slice (some ⟨b7, 0, none⟩) x.asks.length q7, .slice (some ⟨b8, 0, none⟩) x.gives.length q8] 27 (w9.setCell ⟨w.heap.size, 8, none⟩ (.slice (some ⟨b8, 0, none⟩) x.gives.length q8))) := HK9.out.set 8 _
 have HZ10 : Hid (Blk (w.heap.size + 1) #[.string ⟨#[]⟩, .bool false, .int .i64 0, .bool false, .int .i64 0, .slice none 0 0, .slice none 0 0, .slice none 0 0, .slice none 0 0] 27 (w9.setCell ⟨w.heap.size, 8, none⟩ (.slice (some ⟨b8, 0, none⟩) x.gives.length q8))) := HZ9.out.other (a := ⟨w.heap.size, 8, none⟩) (show w.heap.size + 1 ≠ w.heap.size by omega) _
 have hB10 : Below w.heap.size w (w9.setCell ⟨w.heap.size, 8, none⟩ (.slice (some ⟨b8, 0, none⟩) x.gives.length q8)) := hB9.setCell (p := ⟨w.heap.size, 8, none⟩) (Nat.le_refl _) _
 replace P5 : Hid (SliceC WntC 7 h5 (w9.setCell ⟨w.heap.size, 8, none⟩ (.slice (some ⟨b8, 0, none⟩) x.gives.length q8)) (some ⟨b5, 0, none⟩) x.wants) := P5.out.keep WntC.holds (Keeps.set (a := ⟨w.heap.size, 8, none⟩) (show w.heap.size < h5 by omega) _) (Nat.le_refl _)
 replace P6 : Hid (SliceC RnC 11 h6 (w9.setCell ⟨w.heap.size, 8, none⟩ (.slice (some ⟨b8, 0, none⟩) x.gives.length q8)) (some ⟨b6, 0, none⟩) x.runs) := P6.out.keep RnC.holds (Keeps.set (a := ⟨w.heap.size, 8, none⟩) (show w.heap.size < h6 by omega) _) (Nat.le_refl _)
 replace P7 : Hid (SliceC AksC 4 h7 (w9.setCell ⟨w.heap.size, 8, none⟩ (.slice (some ⟨b8, 0, none⟩) x.gives.length q8)) (some ⟨b7, 0, none⟩) x.asks) := P7.out.keep AksC.holds (Keeps.set (a := ⟨w.heap.size, 8, none⟩) (show w.heap.size < h7 by omega) _) (Nat.le_refl _)
 replace P8 : Hid (SliceC AksC 4 h8 (w9.setCell ⟨w.heap.size, 8, none⟩ (.slice (some ⟨b8, 0, none⟩) x.gives.length q8)) (some ⟨b8, 0, none⟩) x.gives) := P8.out.keep AksC.holds (Keeps.set (a := ⟨w.heap.size, 8, none⟩) (show w.heap.size < h8 by omega) _) (Nat.le_refl _)
 clear HK9 HZ9 hB9
 generalize (w9.setCell ⟨w.heap.size, 8, none⟩ (.slice (some ⟨b8, 0, none⟩) x.gives.length q8)) = w10 at *
 obtain ⟨wf, HE⟩ : ∃ wf, Hid (wf = w10.setCells (w.heap.size + 1) 0 [.string x.name, .bool x.up, .int .i64 x.clock, .bool x.known, .int .i64 x.seen, .slice (some ⟨b5, 0, none⟩) x.wants.length q5, .slice (some ⟨b6, 0, none⟩) x.runs.length q6, .slice (some ⟨b7, 0, none⟩) x.asks.length q7, .slice (some ⟨b8, 0, none⟩) x.gives.length q8]) := ⟨_, rfl⟩
 have HTS := Hid.intro HZ10.out.there
 have HRf : Hid (wf.rangeAt (w.heap.size + 1) 0 [.string x.name, .bool x.up, .int .i64 x.clock, .bool x.known, .int .i64 x.seen, .slice (some ⟨b5, 0, none⟩) x.wants.length q5, .slice (some ⟨b6, 0, none⟩) x.runs.length q6, .slice (some ⟨b7, 0, none⟩) x.asks.length q7, .slice (some ⟨b8, 0, none⟩) x.gives.length q8]) := by
  show World.rangeAt _ _ _ _
  rw [HE.out]
  exact World.rangeAt_setCells_same _ _ _ _ HTS.out
 have hBf : Below w.heap.size w wf := by
  rw [HE.out]
  exact below_setCells (by omega) _ _ _ hB10
 replace P5 : Hid (SliceC WntC 7 h5 wf (some ⟨b5, 0, none⟩) x.wants) := by
  show SliceC _ _ _ _ _ _
  rw [HE.out]
  exact P5.out.keep WntC.holds (Keeps.setCells (show w.heap.size + 1 < h5 by omega) _ _ _) (Nat.le_refl _)
 replace P6 : Hid (SliceC RnC 11 h6 wf (some ⟨b6, 0, none⟩) x.runs) := by
  show SliceC _ _ _ _ _ _
  rw [HE.out]
  exact P6.out.keep RnC.holds (Keeps.setCells (show w.heap.size + 1 < h6 by omega) _ _ _) (Nat.le_refl _)
 replace P7 : Hid (SliceC AksC 4 h7 wf (some ⟨b7, 0, none⟩) x.asks) := by
  show SliceC _ _ _ _ _ _
  rw [HE.out]
  exact P7.out.keep AksC.holds (Keeps.setCells (show w.heap.size + 1 < h7 by omega) _ _ _) (Nat.le_refl _)
 replace P8 : Hid (SliceC AksC 4 h8 wf (some ⟨b8, 0, none⟩) x.gives) := by
  show SliceC _ _ _ _ _ _
  rw [HE.out]
  exact P8.out.keep AksC.holds (Keeps.setCells (show w.heap.size + 1 < h8 by omega) _ _ _) (Nat.le_refl _)
 clear hB10
 go_wp2_with (first | (refine wpList_load_mid rfl 27 _ rfl w.heap.size 0 rfl [.string x.name, .bool x.up, .int .i64 x.clock, .bool x.known, .int .i64 x.seen, .slice (some ⟨b5, 0, none⟩) x.wants.length q5, .slice (some ⟨b6, 0, none⟩) x.runs.length q6, .slice (some ⟨b7, 0, none⟩) x.asks.length q7, .slice (some ⟨b8, 0, none⟩) x.gives.length q8] _ HK10.out.rangeA Try.underlying27 rfl isz_Mte ?_) | (refine wpList_store_to rfl 27 _ _ rfl (w.heap.size + 1) 0 #[.string x.name, .bool x.up, .int .i64 x.clock, .bool x.known, .int .i64 x.seen, .slice (some ⟨b5, 0, none⟩) x.wants.length q5, .slice (some ⟨b6, 0, none⟩) x.runs.length q6, .slice (some ⟨b7, 0, none⟩) x.asks.length q7, .slice (some ⟨b8, 0, none⟩) x.gives.length q8] rfl rfl HTS.out isz_Mte (by simp [Value.oneCell']) wf HE.out ?_))
 exact bodyPost_ret (results_cell_mid rfl _ _ (w.heap.size + 1) [.string x.name, .bool x.up, .int .i64 x.clock, .bool x.known, .int .i64 x.seen, .slice (some ⟨b5, 0, none⟩) x.wants.length q5, .slice (some ⟨b6, 0, none⟩) x.runs.length q6, .slice (some ⟨b7, 0, none⟩) x.asks.length q7, .slice (some ⟨b8, 0, none⟩) x.gives.length q8] _ rfl HRf.out Try.underlying27 rfl isz_Mte) rfl ⟨b5, q5, b6, q6, b7, q7, b8, q8, rfl, P5.out.keep WntC.holds (Keeps.refl _ _) (by omega), P6.out.keep RnC.holds (Keeps.refl _ _) (by omega), P7.out.keep AksC.holds (Keeps.refl _ _) (by omega), P8.out.keep AksC.holds (Keeps.refl _ _) (by omega), hBf⟩

end Go.Proofs.Ytnifmiacobfplaa
