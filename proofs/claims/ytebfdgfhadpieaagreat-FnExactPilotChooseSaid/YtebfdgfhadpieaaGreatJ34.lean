import Derived.Test.YtebfdgfhadpieaaGreatAsk
namespace Go.Proofs.YtebfdgfhadpieaaGreat
open Go.RowKit
theorem shortT_of (y : P.Tr) (hw : P.wf y) : nOk y → shortT y := by
 refine P.wf_ind (p := fun y => nOk y → shortT y) ?_ ?_ ?_ ?_ ?_ ?_ y hw
 ·intro _; exact ⟨Nat.zero_le _, Nat.zero_le _, trivial, trivial⟩
 ·intro n hn
  exact ⟨Nat.le_trans (P.nameOk_pos (hn.2.1 rfl)).2 (by decide), Nat.zero_le _, trivial, trivial⟩
 ·intro n v hn
  obtain ⟨h1, h2⟩ := hn.2.2.1 rfl
  exact ⟨Nat.le_trans (P.nameOk_pos h1).2 (by decide), Nat.le_trans (P.nameOk_pos h2).2 (by decide), trivial, trivial⟩
 ·intro k _ ih hn; exact ⟨Nat.zero_le _, Nat.zero_le _, ih hn.2.2.2.1, trivial⟩
 ·intro a b _ _ ia ib hn; exact ⟨Nat.zero_le _, Nat.zero_le _, ia hn.2.2.2.1, ib hn.2.2.2.2⟩
 ·intro a b _ _ ia ib hn; exact ⟨Nat.zero_le _, Nat.zero_le _, ia hn.2.2.2.1, ib hn.2.2.2.2⟩
theorem tree_facts {t : ByteArray} (h : codeOf t = 0) : P.wf (treeOf t) ∧ (treeOf t = P.nonT ∨ nOk (treeOf t)) ∧ P.tall (treeOf t) ≤ 20 ∧ P.count (treeOf t) ≤ 200 := by
 have ht : ¬ 200 < t.size := by
  intro hb
  unfold codeOf at h
  rw [if_pos hb] at h
  cases h
 have hl := toksAt_le (i := 0) (t := t) (by omega)
 unfold codeOf at h
 rw [if_neg ht] at h
 unfold treeOf
 by_cases hL : toksAt t 0 = []
 ·rw [if_pos hL]
  exact ⟨P.wf_non, .inl rfl, by decide, by decide⟩
 ·rw [if_neg hL] at h ⊢
  cases hr : P.rd 1000 2 P.nonT (toksAt t 0) with
  | none => rw [hr] at h; cases h
  | some yr =>
   obtain ⟨y, r⟩ := yr
   obtain ⟨_, _, a3, _, a5, a6⟩ := P.rd_rd 1000 2 P.nonT _ _ _ (fun h => by omega) hr
   rw [if_pos (by omega)] at a5
   have hn := (rd_rd2 1000 2 P.nonT _ _ _ (fun h => by omega) hr).1
   refine ⟨a3, .inr hn, ?_, ?_⟩
   ·show P.tall y ≤ 20
    rw [hr] at h
    cases r with
    | nil =>
     by_cases h20 : 20 < P.tall y
     ·simp [h20] at h
     ·omega
    | cons a b => simp at h
   ·show P.count y ≤ 200
    omega
theorem tree_short {t : ByteArray} (h : codeOf t = 0) : shortT (treeOf t) := by
 obtain ⟨hw, hn, _, _⟩ := tree_facts h
 rcases hn with e | hn
 ·rw [e]; exact ⟨Nat.zero_le _, Nat.zero_le _, trivial, trivial⟩
 ·exact shortT_of _ hw hn
theorem asks_any (t nm z : ByteArray) (ms : List ByteArray) (a : Option Addr) (cap lo : Nat) (rm hd : Int) (cl : Bool) (w : World) (hin : SliceC StrC 1 lo w a ms) (hml : ms.length ≤ 1000) (hz : z.size ≤ 1000) (ht : t.size ≤ maxLen) :
  Calls Tryz.prog 127 #[.string t, .agg #[.string nm, .string z, .slice a ms.length cap, .int .i64 rm, .int .i64 hd, .bool cl]] w fun e w' => e = .returned (.bool (asksI t ms z)) ∧ Below w.heap.size w w' :=
 asksFor_any t nm z ms a cap lo rm hd cl w hin hml hz ht (fun h => (tree_facts h).1) tree_short (fun s hs => by
  obtain ⟨j, hj⟩ := List.getElem?_of_mem hs
  obtain ⟨_, _, _, _, _, hc⟩ := hin.at hj
  exact hc.2)
end Go.Proofs.YtebfdgfhadpieaaGreat
namespace Go.Proofs.YtebfdgfhadpieaaGreat
open Go.RowKit Go.WideMaps Go.Maps
theorem run_append_none_any {P : Program} {w : World} (base : Nat) (t ty e : TypeId) (i : TypeInfo) (size : Nat) (ht : P.underlying t = some (.slice e)) (hi : P.info? e = some i)
  (v : Value) (n c : Nat) (xs : List Value) (hown : w.ownsRow base e size v n xs) :
  (Builtin.append_ #[t, t] ty #[v, .slice none 0 c]).run P w = .ok v w := by
 rcases hown.2 with ⟨rfl, rfl⟩ | ⟨g, cap, cur, rfl, _, _, hnc, _⟩
 ·simp [Builtin.append_, run_underlying ht, sizeOf, typeInfo, hi, Builtin.lenOf, Builtin.firstCells]
 ·simp [Builtin.append_, run_underlying ht, sizeOf, typeInfo, hi, Builtin.lenOf, Builtin.firstCells, hnc, storeCells]
theorem step_append_strs {ops : Array Oper} {o : Oper} {ac : Act} {w : World} {K : Act → World → Prop} {Q : Exit → Act → World → Prop} {E : Prop} (hgd : o.guard = none) (s x : Operand)
  (ho : o.op = .call { callee := .builtin .append, args := #[s, x], argTypes := #[59, 59] })
  (base : Nat) (v : Value) (n : Nat) (xs : List Value) (hs : ac.eval s = v) (hown : w.ownsRow base 9 1 v n xs)
  (ms : List ByteArray) (a : Option Addr) (cap lo : Nat) (hx : ac.eval x = .slice a ms.length cap) (hin : SliceC StrC 1 lo w a ms) (hb : n + ms.length ≤ 100000) (hbase : base ≤ w.heap.size)
  (h : ∀ v' w', w'.ownsRow base 9 1 v' (n + ms.length) (xs ++ ms.map Value.string) → w.grownBy w' v.ownBlock → (v'.ownBlock = v.ownBlock ∨ v'.ownBlock = some w.heap.size) → K (ac.put o.dst v') w') :
  if Region.wanted o (yielded ops ac.tmps) = true then Oper.wp Tryz.prog o ac w K Q else E := by
 obtain ⟨i0, hi, hz0, hz1, hz2⟩ := info_parts info_str
 have hw : Region.wanted o (yielded ops ac.tmps) = true := by simp [Region.wanted, hgd]
 rw [if_pos hw]
 cases a with
 | none =>
  have hm0 : ms = [] := by
   rcases hin.2 with h | ⟨b, o, h, _⟩
   ·exact h
   ·cases h
  subst hm0
  have hr := run_append_none_any (P := Tryz.prog) (w := w) base 59 o.type 9 i0 1 Tryz.underlying59 hi v n cap xs hown
  unfold Oper.wp execOp
  simp only [List.length_nil] at hx
  simp only [ho, resolve, invoke, builtin, Sem.run_bind, Sem.run_pure, Result.andThen_ok, List.map_toArray, List.map_cons, List.map_nil, hs, hx, hr]
  exact h v w (by simpa using hown) ⟨rfl, rfl, rfl, Nat.le_refl _, fun _ _ _ => rfl⟩ (.inl rfl)
 | some ad =>
  obtain ⟨v', w', hr, h2, h3, _, h5⟩ := run_append_own_at (P := Tryz.prog) w base 59 o.type 9 i0 (.string ⟨#[]⟩) 1 16 Tryz.underlying59 hi hz0 hz1 hz2 rfl (by decide) v n xs hown ad ms.length cap (ms.map Value.string) (by simp)
   (fun j u hj => by
    obtain ⟨s, hs, rfl⟩ := strRow_at hj
    obtain ⟨b, o, e, _, _, hc⟩ := hin.at hs
    cases e
    have := hc.1
    simp only [Nat.mul_one, Nat.add_zero] at this
    rw [Addr.add_lit]
    exact this) (strRow_one ms) (by unfold maxLen; omega) (by omega) hbase
  unfold Oper.wp execOp
  simp only [ho, resolve, invoke, builtin, Sem.run_bind, Sem.run_pure, Result.andThen_ok, List.map_toArray, List.map_cons, List.map_nil, hs, hx, hr]
  exact h v' w' h2 h3 (by
   rcases h5 with h5 | h5
   ·exact .inl h5
   ·exact .inr h5)
set_option maxHeartbeats 4000000 in
set_option maxRecDepth 100000 in
theorem l3Marks_any (nm z : ByteArray) (ms : List ByteArray) (a : Option Addr) (cap lo : Nat) (rm hd : Int) (cl : Bool) (w : World) (hin : SliceC StrC 1 lo w a ms) (hml : ms.length ≤ 1000) (hz : z.size ≤ 1000) (hsz : ∀ s ∈ ms, s.size ≤ maxLen) :
  Calls Tryz.prog 87 #[.agg #[.string nm, .string z, .slice a ms.length cap, .int .i64 rm, .int .i64 hd, .bool cl]] w fun e w' => ∃ g c, e = .returned (.slice (some ⟨g, 0, none⟩) (zMarks ms z).length c) ∧ SliceC StrC 1 0 w' (some ⟨g, 0, none⟩) (zMarks ms z) ∧ Below w.heap.size w w' := by
 obtain ⟨i0, hi, hz0, hz1, hz2⟩ := info_parts info_str
 have HI : Hid (SliceC StrC 1 lo w a ms) := hin
 have HSZ : Hid (∀ s ∈ ms, s.size ≤ maxLen) := hsz
 clear hin hsz
 go_enter Tryz.func87, Tryz.ntmps87
 go_upto_region 1 with fail
 have hal : Below w.heap.size w (w.alloc (Obj.cells #[.string nm, .string z, .slice a ms.length cap, .int .i64 rm, .int .i64 hd, .bool cl] 61)) := (Below.refl _ _).alloc nL _
 have e1 : (w.alloc (Obj.cells #[.string nm, .string z, .slice a ms.length cap, .int .i64 rm, .int .i64 hd, .bool cl] 61)).cell? ⟨w.heap.size, 1, none⟩ = some (.string z) := by simp
 have e2 : (w.alloc (Obj.cells #[.string nm, .string z, .slice a ms.length cap, .int .i64 rm, .int .i64 hd, .bool cl] 61)).cell? ⟨w.heap.size, 2, none⟩ = some (.slice a ms.length cap) := by simp
 have HI1 : Hid (SliceC StrC 1 lo (w.alloc (Obj.cells #[.string nm, .string z, .slice a ms.length cap, .int .i64 rm, .int .i64 hd, .bool cl] 61)) a ms) := HI.out.below StrC.holds hal nL
 have HB1 : Hid (Below w.heap.size w (w.alloc (Obj.cells #[.string nm, .string z, .slice a ms.length cap, .int .i64 rm, .int .i64 hd, .bool cl] 61))) := hal
 clear hal HI
 generalize (w.alloc (Obj.cells #[.string nm, .string z, .slice a ms.length cap, .int .i64 rm, .int .i64 hd, .bool cl] 61)) = w2 at *
 have HB3 : Hid (Below w.heap.size w w2.drew) := HB1.out.drew
 have HI3 : Hid (SliceC StrC 1 lo w2.drew a ms) := HI1.out.below StrC.holds ((Below.refl _ w2).drew) nL
 refine wp_region_held_drew (S := TwoZ w.heap.size (.string z) (.slice a ms.length cap)) (by kernel_rfl) (by simpa [TwoZ] using ⟨e1, e2⟩) (fun hS => ?_)
 generalize w2.drew = w3 at *
 clear HB1 HI1 e1 e2
 refine x5 1 4 (.pointer (some ⟨w.heap.size, 2, none⟩)) rfl hS ?_
 simp only [pA,pB,pC,pD]
 refine x5 2 5 (.slice a ms.length cap) rfl hS ?_
 simp only [pA,pB,pC,pD]
 refine x5 4 7 (.pointer (some ⟨w.heap.size, 1, none⟩)) rfl hS ?_
 simp only [pA,pB,pC,pD]
 refine x5 5 8 (.string z) rfl hS ?_
 simp only [pA,pB,pC,pD]
 refine ty 6 ⟨some 9, _, _, _, _, none⟩ (.string (zoneB ++ z)) rfl (by rfl) ?_ hS ?_
 ·intro wy hy
  obtain ⟨y0, y1⟩ := hy
  go_simp
  omega
 simp only [pA,pB,pC,pD]
 refine wpAnyH_ready (rs := [0, 7]) (by kernel_rfl) (by simp) (AllReadyH.cons (o := ⟨some 3, _, _, _, _, none⟩) rfl (fun K hK => ?_) (AllReadyH.cons (o := ⟨some 10, _, _, _, _, none⟩) rfl (fun K hK => ?_) AllReadyH.nil))
 ·go_simp
  have hal : Below w3.heap.size w3 (w3.alloc (Obj.cells #[] 9)) := (Below.refl _ _).alloc nL _
  have HB4 : Hid (Below w.heap.size w (w3.alloc (Obj.cells #[] 9))) := HB3.out.trans (hal.mono HB3.out.size)
  have HI4 : Hid (SliceC StrC 1 lo (w3.alloc (Obj.cells #[] 9)) a ms) := HI3.out.below StrC.holds hal nL
  have HO4 : Hid ((w3.alloc (Obj.cells #[] 9)).ownsRow w.heap.size 9 1 (.slice (some ⟨w3.heap.size, 0, none⟩) 0 0) 0 []) := World.ownsRow_made w3 #[] 0 HB3.out.size (Nat.zero_le _) rfl
  have HNE4 : Hid ((Value.slice (some ⟨w3.heap.size, 0, none⟩) 0 0).ownBlock ≠ some w.heap.size) := by
   intro e
   have h2 : w.heap.size < w3.heap.size := block_lt_of_cell hS.1
   have h3 : w3.heap.size = w.heap.size := Option.some.inj e
   omega
  refine hK.out _ _ (hS.below hal) (fun hS => ?_)
  clear hal HB3 HI3
  generalize (w3.alloc (Obj.cells #[] 9)) = w4 at *
  generalize w3.heap.size = p0 at *
  clear hK K
  refine wpAnyH_ready (rs := [3, 7]) (by kernel_rfl) (by simp) (AllReadyH.cons (o := ⟨some 6, _, _, _, _, none⟩) rfl (fun K hK => ?_) (AllReadyH.cons (o := ⟨some 10, _, _, _, _, none⟩) rfl (fun K hK => ?_) AllReadyH.nil))
  ·refine step_append_strs (by rfl) (.tmp 3) (.tmp 5) (by rfl) w.heap.size _ 0 [] (by rfl) HO4.out ms a cap lo (by rfl) HI4.out (by omega) HB4.out.size ?_
   intro v w5 hown hgrow hob
   simp only [Nat.zero_add, List.nil_append] at hown
   have HO5 : Hid (w5.ownsRow w.heap.size 9 1 v ms.length (ms.map Value.string)) := hown
   have HB5 : Hid (Below w.heap.size w w5) := HB4.out.grown hgrow HB4.out.size (fun i hi => (HO4.out.lt i hi).1)
   have HNE5 : Hid (v.ownBlock ≠ some w.heap.size) := by
    rcases hob with e | e
    ·rw [e]; exact HNE4.out
    ·rw [e]
     intro e'
     have h2 : w.heap.size < w4.heap.size := block_lt_of_cell hS.1
     have h3 : w4.heap.size = w.heap.size := Option.some.inj e'
     omega
   refine hK.out _ _ (TwoZ.grownZ hS hgrow HNE4.out) (fun hS => ?_)
   clear hown hgrow hob HB4 HI4 HO4 HNE4
   clear hK K
   simp only [pA,pB,pC,pD]
   refine rd1 7 ⟨some 10, _, _, _, _, none⟩ rfl (fun K hK => ?_)
   go_simp
   have hal : Below w5.heap.size w5 (w5.alloc (Obj.cells #[.string (zoneB ++ z)] 9)) := (Below.refl _ _).alloc nL _
   have HB6 : Hid (Below w.heap.size w (w5.alloc (Obj.cells #[.string (zoneB ++ z)] 9))) := HB5.out.trans (hal.mono HB5.out.size)
   have HA6 : Hid ((w5.alloc (Obj.cells #[.string (zoneB ++ z)] 9)).cell? ⟨w5.heap.size, 0, none⟩ = some (.string (zoneB ++ z))) := by show _ = _; simp
   have HO6 : Hid ((w5.alloc (Obj.cells #[.string (zoneB ++ z)] 9)).ownsRow w.heap.size 9 1 v ms.length (ms.map Value.string)) := ownsRow_below HO5.out hal
   have HNE6 := HNE5
   have HQ6 : Hid (v.ownBlock ≠ some w5.heap.size) := by
    intro e
    have := (HO5.out.lt _ e).2
    omega
   refine hK.out _ _ (hS.below hal) (fun hS => ?_)
   clear hal HB5 HO5 HNE5
   generalize (w5.alloc (Obj.cells #[.string (zoneB ++ z)] 9)) = w6 at *
   generalize w5.heap.size = sb at *
   clear hK K
   refine rd1 8 ⟨some 11, _, _, _, _, none⟩ rfl (fun K hK => ?_)
   refine step_append_lies _ (by rfl) (.tmp 6) (.tmp 10) 59 (by rfl) w.heap.size 9 i0 _ 1 16 Tryz.underlying59 hi hz0 hz1 hz2 (by rfl) (by decide) v ms.length _ (by rfl) HO6.out ⟨sb, 0, none⟩ 1 1 [.string (zoneB ++ z)] (by rfl) (by rfl) (oneStr HA6.out) (by intro u hu; rw [List.mem_singleton.1 hu]; rfl) (by omega) (by unfold maxLen; omega) (by omega) HB6.out.size w6.heap.size rfl ?_
   intro g cap2 w9 hown hgrow hto hgl
   have HO9 : Hid (w9.ownsRow w.heap.size 9 1 (.slice (some ⟨g, 0, none⟩) (ms.length + 1) cap2) (ms.length + 1) (ms.map Value.string ++ [.string (zoneB ++ z)])) := hown
   have HB9 : Hid (Below w.heap.size w w9) := HB6.out.grown hgrow HB6.out.size (fun i hi => (HO6.out.lt i hi).1)
   refine hK.out _ _ (TwoZ.grownZ hS hgrow HNE6.out) (fun hS => ?_)
   clear hK K hown hgrow hto HO6 HB6 HA6 HNE6
   simp only [pA,pB,pC,pD]
   refine x5 9 2 ((.slice (some ⟨g, 0, none⟩) (ms.length + 1) cap2)) rfl hS ?_
   simp only [pA,pB,pC,pD]
   refine td ?_
   have HZ9 : Hid (SliceC StrC 1 0 w9 (some ⟨g, 0, none⟩) (zMarks ms z)) := zMarks_sl HO9.out HSZ.out hz hml
   have hlen : ms.length + 1 = (zMarks ms z).length := by simp [zMarks]
   rw [hlen]
   clear hlen HO9 hS hgl
   go_wp2_with fail
   go_ret
   exact ⟨_, _, rfl, HZ9.out, HB9.out⟩
  ·go_simp
   have hal : Below w4.heap.size w4 (w4.alloc (Obj.cells #[.string (zoneB ++ z)] 9)) := (Below.refl _ _).alloc nL _
   have HB5 : Hid (Below w.heap.size w (w4.alloc (Obj.cells #[.string (zoneB ++ z)] 9))) := HB4.out.trans (hal.mono HB4.out.size)
   have HA5 : Hid ((w4.alloc (Obj.cells #[.string (zoneB ++ z)] 9)).cell? ⟨w4.heap.size, 0, none⟩ = some (.string (zoneB ++ z))) := by show _ = _; simp
   have HI5 : Hid (SliceC StrC 1 lo (w4.alloc (Obj.cells #[.string (zoneB ++ z)] 9)) a ms) := HI4.out.below StrC.holds hal nL
   have HO5 : Hid ((w4.alloc (Obj.cells #[.string (zoneB ++ z)] 9)).ownsRow w.heap.size 9 1 (.slice (some ⟨p0, 0, none⟩) 0 0) 0 []) := ownsRow_below HO4.out hal
   have HNE5 := HNE4
   have HQ5 : Hid ((Value.slice (some ⟨p0, 0, none⟩) 0 0).ownBlock ≠ some w4.heap.size) := by
    intro e
    have := (HO4.out.lt _ e).2
    omega
   refine hK.out _ _ (hS.below hal) (fun hS => ?_)
   clear hal HB4 HO4 HNE4 HI4
   generalize (w4.alloc (Obj.cells #[.string (zoneB ++ z)] 9)) = w5 at *
   generalize w4.heap.size = sb at *
   clear hK K
   refine rd1 3 ⟨some 6, _, _, _, _, none⟩ rfl (fun K hK => ?_)
   refine step_append_strs (by rfl) (.tmp 3) (.tmp 5) (by rfl) w.heap.size _ 0 [] (by rfl) HO5.out ms a cap lo (by rfl) HI5.out (by omega) HB5.out.size ?_
   intro v w6 hown hgrow hob
   simp only [Nat.zero_add, List.nil_append] at hown
   have HO6 : Hid (w6.ownsRow w.heap.size 9 1 v ms.length (ms.map Value.string)) := hown
   have HB6 : Hid (Below w.heap.size w w6) := HB5.out.grown hgrow HB5.out.size (fun i hi => (HO5.out.lt i hi).1)
   have HNE6 : Hid (v.ownBlock ≠ some w.heap.size) := by
    rcases hob with e | e
    ·rw [e]; exact HNE5.out
    ·rw [e]
     intro e'
     have h2 : w.heap.size < w5.heap.size := block_lt_of_cell hS.1
     have h3 : w5.heap.size = w.heap.size := Option.some.inj e'
     omega
   have HA6 : Hid (w6.cell? ⟨sb, 0, none⟩ = some (.string (zoneB ++ z))) := hgrow.cell HA5.out (fun e => HQ5.out e.symm)
   have HQ6 : Hid (v.ownBlock ≠ some sb) := by
    rcases hob with e | e
    ·rw [e]; exact HQ5.out
    ·rw [e]
     intro e'
     have h2 : sb < w5.heap.size := block_lt_of_cell HA5.out
     have h3 : w5.heap.size = sb := Option.some.inj e'
     omega
   refine hK.out _ _ (TwoZ.grownZ hS hgrow HNE5.out) (fun hS => ?_)
   clear hown hgrow hob HB5 HI5 HO5 HNE5 HA5 HQ5
   clear hK K
   simp only [pA,pB,pC,pD]
   refine rd1 8 ⟨some 11, _, _, _, _, none⟩ rfl (fun K hK => ?_)
   refine step_append_lies _ (by rfl) (.tmp 6) (.tmp 10) 59 (by rfl) w.heap.size 9 i0 _ 1 16 Tryz.underlying59 hi hz0 hz1 hz2 (by rfl) (by decide) v ms.length _ (by rfl) HO6.out ⟨sb, 0, none⟩ 1 1 [.string (zoneB ++ z)] (by rfl) (by rfl) (oneStr HA6.out) (by intro u hu; rw [List.mem_singleton.1 hu]; rfl) (by omega) (by unfold maxLen; omega) (by omega) HB6.out.size w6.heap.size rfl ?_
   intro g cap2 w9 hown hgrow hto hgl
   have HO9 : Hid (w9.ownsRow w.heap.size 9 1 (.slice (some ⟨g, 0, none⟩) (ms.length + 1) cap2) (ms.length + 1) (ms.map Value.string ++ [.string (zoneB ++ z)])) := hown
   have HB9 : Hid (Below w.heap.size w w9) := HB6.out.grown hgrow HB6.out.size (fun i hi => (HO6.out.lt i hi).1)
   refine hK.out _ _ (TwoZ.grownZ hS hgrow HNE6.out) (fun hS => ?_)
   clear hK K hown hgrow hto HO6 HB6 HA6 HNE6
   simp only [pA,pB,pC,pD]
   refine x5 9 2 ((.slice (some ⟨g, 0, none⟩) (ms.length + 1) cap2)) rfl hS ?_
   simp only [pA,pB,pC,pD]
   refine td ?_
   have HZ9 : Hid (SliceC StrC 1 0 w9 (some ⟨g, 0, none⟩) (zMarks ms z)) := zMarks_sl HO9.out HSZ.out hz hml
   have hlen : ms.length + 1 = (zMarks ms z).length := by simp [zMarks]
   rw [hlen]
   clear hlen HO9 hS hgl
   go_wp2_with fail
   go_ret
   exact ⟨_, _, rfl, HZ9.out, HB9.out⟩
 ·go_simp
  have hal : Below w3.heap.size w3 (w3.alloc (Obj.cells #[.string (zoneB ++ z)] 9)) := (Below.refl _ _).alloc nL _
  have HB4 : Hid (Below w.heap.size w (w3.alloc (Obj.cells #[.string (zoneB ++ z)] 9))) := HB3.out.trans (hal.mono HB3.out.size)
  have HA4 : Hid ((w3.alloc (Obj.cells #[.string (zoneB ++ z)] 9)).cell? ⟨w3.heap.size, 0, none⟩ = some (.string (zoneB ++ z))) := by show _ = _; simp
  have HI4 : Hid (SliceC StrC 1 lo (w3.alloc (Obj.cells #[.string (zoneB ++ z)] 9)) a ms) := HI3.out.below StrC.holds hal nL
  refine hK.out _ _ (hS.below hal) (fun hS => ?_)
  clear hal HB3 HI3
  generalize (w3.alloc (Obj.cells #[.string (zoneB ++ z)] 9)) = w4 at *
  generalize w3.heap.size = sb at *
  clear hK K
  refine rd1 0 ⟨some 3, _, _, _, _, none⟩ rfl (fun K hK => ?_)
  go_simp
  have hal : Below w4.heap.size w4 (w4.alloc (Obj.cells #[] 9)) := (Below.refl _ _).alloc nL _
  have HB5 : Hid (Below w.heap.size w (w4.alloc (Obj.cells #[] 9))) := HB4.out.trans (hal.mono HB4.out.size)
  have HI5 : Hid (SliceC StrC 1 lo (w4.alloc (Obj.cells #[] 9)) a ms) := HI4.out.below StrC.holds hal nL
  have HO5 : Hid ((w4.alloc (Obj.cells #[] 9)).ownsRow w.heap.size 9 1 (.slice (some ⟨w4.heap.size, 0, none⟩) 0 0) 0 []) := World.ownsRow_made w4 #[] 0 HB4.out.size (Nat.zero_le _) rfl
  have HNE5 : Hid ((Value.slice (some ⟨w4.heap.size, 0, none⟩) 0 0).ownBlock ≠ some w.heap.size) := by
   intro e
   have h2 : w.heap.size < w4.heap.size := block_lt_of_cell hS.1
   have h3 : w4.heap.size = w.heap.size := Option.some.inj e
   omega
  have HA5 : Hid ((w4.alloc (Obj.cells #[] 9)).cell? ⟨sb, 0, none⟩ = some (.string (zoneB ++ z))) := (hal.cell (p := ⟨sb, 0, none⟩) (block_lt_of_cell HA4.out)).trans HA4.out
  have HQ5 : Hid ((Value.slice (some ⟨w4.heap.size, 0, none⟩) 0 0).ownBlock ≠ some sb) := by
   intro e
   have h2 : sb < w4.heap.size := block_lt_of_cell HA4.out
   have h3 : w4.heap.size = sb := Option.some.inj e
   omega
  refine hK.out _ _ (hS.below hal) (fun hS => ?_)
  clear hal HB4 HI4 HA4
  generalize (w4.alloc (Obj.cells #[] 9)) = w5 at *
  generalize w4.heap.size = p0 at *
  clear hK K
  refine rd1 3 ⟨some 6, _, _, _, _, none⟩ rfl (fun K hK => ?_)
  refine step_append_strs (by rfl) (.tmp 3) (.tmp 5) (by rfl) w.heap.size _ 0 [] (by rfl) HO5.out ms a cap lo (by rfl) HI5.out (by omega) HB5.out.size ?_
  intro v w6 hown hgrow hob
  simp only [Nat.zero_add, List.nil_append] at hown
  have HO6 : Hid (w6.ownsRow w.heap.size 9 1 v ms.length (ms.map Value.string)) := hown
  have HB6 : Hid (Below w.heap.size w w6) := HB5.out.grown hgrow HB5.out.size (fun i hi => (HO5.out.lt i hi).1)
  have HNE6 : Hid (v.ownBlock ≠ some w.heap.size) := by
   rcases hob with e | e
   ·rw [e]; exact HNE5.out
   ·rw [e]
    intro e'
    have h2 : w.heap.size < w5.heap.size := block_lt_of_cell hS.1
    have h3 : w5.heap.size = w.heap.size := Option.some.inj e'
    omega
  have HA6 : Hid (w6.cell? ⟨sb, 0, none⟩ = some (.string (zoneB ++ z))) := hgrow.cell HA5.out (fun e => HQ5.out e.symm)
  have HQ6 : Hid (v.ownBlock ≠ some sb) := by
   rcases hob with e | e
   ·rw [e]; exact HQ5.out
   ·rw [e]
    intro e'
    have h2 : sb < w5.heap.size := block_lt_of_cell HA5.out
    have h3 : w5.heap.size = sb := Option.some.inj e'
    omega
  refine hK.out _ _ (TwoZ.grownZ hS hgrow HNE5.out) (fun hS => ?_)
  clear hown hgrow hob HB5 HI5 HO5 HNE5 HA5 HQ5
  clear hK K
  simp only [pA,pB,pC,pD]
  refine rd1 8 ⟨some 11, _, _, _, _, none⟩ rfl (fun K hK => ?_)
  refine step_append_lies _ (by rfl) (.tmp 6) (.tmp 10) 59 (by rfl) w.heap.size 9 i0 _ 1 16 Tryz.underlying59 hi hz0 hz1 hz2 (by rfl) (by decide) v ms.length _ (by rfl) HO6.out ⟨sb, 0, none⟩ 1 1 [.string (zoneB ++ z)] (by rfl) (by rfl) (oneStr HA6.out) (by intro u hu; rw [List.mem_singleton.1 hu]; rfl) (by omega) (by unfold maxLen; omega) (by omega) HB6.out.size w6.heap.size rfl ?_
  intro g cap2 w9 hown hgrow hto hgl
  have HO9 : Hid (w9.ownsRow w.heap.size 9 1 (.slice (some ⟨g, 0, none⟩) (ms.length + 1) cap2) (ms.length + 1) (ms.map Value.string ++ [.string (zoneB ++ z)])) := hown
  have HB9 : Hid (Below w.heap.size w w9) := HB6.out.grown hgrow HB6.out.size (fun i hi => (HO6.out.lt i hi).1)
  refine hK.out _ _ (TwoZ.grownZ hS hgrow HNE6.out) (fun hS => ?_)
  clear hK K hown hgrow hto HO6 HB6 HA6 HNE6
  simp only [pA,pB,pC,pD]
  refine x5 9 2 ((.slice (some ⟨g, 0, none⟩) (ms.length + 1) cap2)) rfl hS ?_
  simp only [pA,pB,pC,pD]
  refine td ?_
  have HZ9 : Hid (SliceC StrC 1 0 w9 (some ⟨g, 0, none⟩) (zMarks ms z)) := zMarks_sl HO9.out HSZ.out hz hml
  have hlen : ms.length + 1 = (zMarks ms z).length := by simp [zMarks]
  rw [hlen]
  clear hlen HO9 hS hgl
  go_wp2_with fail
  go_ret
  exact ⟨_, _, rfl, HZ9.out, HB9.out⟩
end Go.Proofs.YtebfdgfhadpieaaGreat
