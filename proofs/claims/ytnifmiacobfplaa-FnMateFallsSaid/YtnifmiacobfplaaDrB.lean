import Derived.Test.YtnifmiacobfplaaTkw
import Derived.Test.YtnifmiacobfplaaDr9
import Derived.Test.YtnifmiacobfplaaMt8
namespace Go.Proofs.Ytnifmiacobfplaa
open Go.RowKit

theorem wp_append_own {P : Program} {op : Oper} {a : Act} {w : World} {K : Act → World → Prop} {Q : Exit → Act → World → Prop} (s x : Operand) (t : TypeId)
  (ho : op.op = .call { callee := .builtin .append, args := #[s, x], argTypes := #[t, t] })
  (base : Nat) (e : TypeId) (i : TypeInfo) (z : Value) (size bytes : Nat) (ht : P.underlying t = some (.slice e)) (hi : P.info? e = some i) (hz : i.zero = some z)
  (hsize : i.size = size) (hby : i.bytes = bytes) (hzs : z.cells.size = size) (hsz : 0 < size)
  (v : Value) (n : Nat) (xs : List Value) (hs : a.eval s = v) (hown : w.ownsRow base e size v n xs)
  (ad : Addr) (m c : Nat) (news : List Value) (hx : a.eval x = .slice (some ad) m c) (hl : news.length = m * size) (hnews : ∀ j u, news[j]? = some u → w.cell? (ad.add j) = some u) (h1 : ∀ u ∈ news, u.oneCell' = true)
  (h63 : n + m ≤ maxLen) (hbytes : (n + m) * bytes ≤ 140737488355328) (hbase : base ≤ w.heap.size)
  (h : ∀ v' w', w'.ownsRow base e size v' (n + m) (xs ++ news) → w.grownBy w' v.ownBlock → (v' = .slice none 0 0 ↔ v = .slice none 0 0 ∧ m = 0) → K (a.put op.dst v') w') : op.wp P a w K Q := by
 obtain ⟨v', w', hr, h2, h3, h4⟩ := run_append_own (P := P) w base t op.type e i z size bytes ht hi hz hsize hby hzs hsz v n xs hown ad m c news hl hnews h1 h63 hbytes hbase
 unfold Oper.wp
 simp [execOp, ho, resolve, invoke, builtin, hs, hx, hr, Result.andThen]
 exact h v' w' h2 h3 h4

theorem rvW_app : ∀ (xs ys : List Wnt), rvWnt (xs ++ ys) = rvWnt xs ++ rvWnt ys
 | [], _ => rfl
 | x :: r, ys => by simp only [List.cons_append, rvWnt, rvW_app r ys, List.append_assoc]

theorem blk_gr {p b : Nat} {cs : Array Value} {t : TypeId} {w w' : World} (h : Blk p cs t w) (hg : w.grownBy w' (some b)) (hne : p ≠ b) : Blk p cs t w' :=
 (hg.block p h.lt (fun e => hne (Option.some.inj e))).trans h

theorem news_of {base g q : Nat} {w : World} {xs : List Wnt} (h : w.ownsRow base 36 7 (.slice (some ⟨g, 0, none⟩) xs.length q) xs.length (rvWnt xs)) : ∀ j u, (rvWnt xs)[j]? = some u → w.cell? ((⟨g, 0, none⟩ : Addr).add j) = some u := by
 intro j u hj
 rw [Addr.add_mid]
 have hl := lt_of_some hj
 rw [rvWnt_len] at hl
 have := h.cellAt j hl
 rw [Nat.zero_add, this, hj]

set_option maxHeartbeats 8000000 in
set_option maxRecDepth 100000 in
theorem wants10_any (p k0 : Nat) (w : World) (hR : RdS p k0 w) (hK0 : k0 ≤ 700000) :
  Calls Try.prog 55 #[.pointer (some ⟨p, 0, none⟩)] w fun e w' => ∃ (xs : List Wnt) (g q K : Nat), e = .returned (.slice (some ⟨g, 0, none⟩) xs.length q) ∧ xs.length ≤ 4 ∧ w'.ownsRow w.heap.size 36 7 (.slice (some ⟨g, 0, none⟩) xs.length q) xs.length (rvWnt xs) ∧ SzWnt xs 100 ∧ K ≤ k0 + 32 ∧ RdS p K w' ∧ Bt p w.heap.size w w' := by
 obtain ⟨iW, hiW, hz0, hz1, hz2⟩ := info_parts info_Wnt
 have hp : p < w.heap.size := hR.lt
 have HR0 : Hid (RdS p k0 (w.alloc (Obj.cells #[] 36))) := hR.below ((Below.refl _ _).alloc (Nat.le_refl _) _) hR.lt
 clear hR
 go_enter Try.func55, Try.ntmps55
 go_wp2_with fail
 go_loopw [3, 4] (fun v i wr => ∃ (j : Nat) (xs : List Wnt) (g q K : Nat), j ≤ 4 ∧ i = .int .i64 j ∧ v = .slice (some ⟨g, 0, none⟩) xs.length q ∧ xs.length ≤ j ∧ Hid (wr.ownsRow w.heap.size 36 7 (.slice (some ⟨g, 0, none⟩) xs.length q) xs.length (rvWnt xs)) ∧ Hid (SzWnt xs 100) ∧ K ≤ k0 + j * 8 ∧ Hid (RdS p K wr) ∧ Bt p w.heap.size w wr) (fun _ i _ => 4 - (intOf i).toNat)
 case atStart => exact ⟨0, [], w.heap.size, 0, k0, by omega, rfl, rfl, Nat.le_refl _, World.ownsRow_made w #[] 0 (Nat.le_refl _) (Nat.zero_le _) rfl, (fun z hz => by cases hz), by omega, HR0, Bt.of_below ((Below.refl _ _).alloc (Nat.le_refl _) _)⟩
 case round =>
  clear HR0
  obtain ⟨j, xs, g, q, K, hj, rfl, rfl, hxj, HO, HS, hK, HR, hT⟩ := hrel
  by_cases hlt : j < 4
  case neg =>
   go_wp2_with fail
   go_ret
   exact ⟨xs, g, q, K, rfl, by omega, HO.out, HS.out, by omega, HR.out, hT⟩
  go_wp2_with fail
  refine (pick_rd p K 2 _ HR.out (by omega) (by omega) (by omega)).mono ?_
  rintro e w1 ⟨v, rfl, hv, hr1, hb1, -⟩
  have HR1 := Hid.intro hr1
  have HO1 := Hid.intro (ownsRow_bt HO.out hb1 hp)
  have hT1 : Bt p w.heap.size w w1 := hT.trans (hb1.mono hT.size)
  clear hr1 hb1 HR HO hT
  by_cases hv0 : v = 0
  case neg =>
   have hv1 : ((v : Int) == 0) = false := by simp; omega
   go_wp2_with fail
   go_roundw
   case rel => exact ⟨j + 1, xs, g, q, K + 1, by omega, by go_num, rfl, by omega, HO1, HS, by omega, HR1, hT1⟩
   case measure => simp [intOf]; omega
  subst hv0
  go_wp2_with fail
  refine (dec_any j _ (by omega)).mono ?_
  rintro e w2 ⟨s, rfl, hs, hb2⟩
  have HR2 := Hid.intro (HR1.out.below hb2 HR1.out.lt)
  have HO2 := Hid.intro (ownsRow_below HO1.out hb2)
  have hT2 : Bt p w.heap.size w w2 := hT1.trans (Bt.of_below (hb2.mono hT1.size))
  clear hb2 HR1 HO1 hT1
  go_wp2_with fail
  obtain ⟨t, ht⟩ : ∃ t : ByteArray, t = ({ data := #[99] } : ByteArray) ++ s := ⟨_, rfl⟩
  have hts : t.size ≤ 100 := by rw [ht, ByteArray.size_append, hs]; decide
  rw [← ht]
  clear ht hs
  refine (drawWant_any p (K + 1) t _ HR2.out (by omega)).mono ?_
  rintro e w3 ⟨x, rfl, hs0, hs2, _, hr3, hb3⟩
  have HR3 := Hid.intro hr3
  have HO3 := Hid.intro (ownsRow_bt HO2.out hb3 hp)
  have hT3 : Bt p w.heap.size w w3 := hT2.trans (hb3.mono hT2.size)
  have HSX : Hid (x.copy.size ≤ 100 ∧ x.hold.size ≤ 100) := ⟨by rw [hs0]; exact hts, by omega⟩
  clear hr3 hb3 HR2 HO2 hT2 hs0 hs2 hts
  have hb4 : Below w3.heap.size w3 (w3.alloc (Obj.cells #[.string x.copy, .int .i64 x.version, .string x.hold, .int .i64 x.pull, .int .i64 x.start, .int .i64 x.dies, .int .i64 x.grace] 36)) := (Below.refl _ _).alloc (Nat.le_refl _) _
  have HX5 : Hid (Blk w3.heap.size #[.string x.copy, .int .i64 x.version, .string x.hold, .int .i64 x.pull, .int .i64 x.start, .int .i64 x.dies, .int .i64 x.grace] 36 (w3.alloc (Obj.cells #[.string x.copy, .int .i64 x.version, .string x.hold, .int .i64 x.pull, .int .i64 x.start, .int .i64 x.dies, .int .i64 x.grace] 36))) := Blk.alloc _ _ _
  have HR5 := Hid.intro (HR3.out.below hb4 HR3.out.lt)
  have HO5 := Hid.intro (ownsRow_below HO3.out hb4)
  have hT5 : Bt p w.heap.size w (w3.alloc (Obj.cells #[.string x.copy, .int .i64 x.version, .string x.hold, .int .i64 x.pull, .int .i64 x.start, .int .i64 x.dies, .int .i64 x.grace] 36)) := hT3.trans (Bt.of_below (hb4.mono hT3.size))
  have HS9 : Hid (SzWnt (xs ++ [x]) 1048576) := fun z hz => by
   rcases List.mem_append.1 hz with h | h
   ·have := HS.out z h; exact ⟨by omega, by omega⟩
   ·rw [List.mem_singleton.1 h]; have := HSX.out; exact ⟨by omega, by omega⟩
  have HS8 : Hid (SzWnt (xs ++ [x]) 100) := fun z hz => by
   rcases List.mem_append.1 hz with h | h
   ·exact HS.out z h
   ·rw [List.mem_singleton.1 h]; exact HSX.out
  clear hb4 HR3 HO3 hT3
  go_upto_region 7 with fail
  generalize w3.alloc (Obj.cells #[.string x.copy, .int .i64 x.version, .string x.hold, .int .i64 x.pull, .int .i64 x.start, .int .i64 x.dies, .int .i64 x.grace] 36) = w5 at *
  generalize w3.heap.size = gx at *
  go_cut [25] (fun v wz => ∃ t : Bool, v = .bool t ∧ Hid (Below w5.heap.size w5 wz))
  case first =>
   refine wp_region_held_drew (S := fun wy => Blk gx #[.string x.copy, .int .i64 x.version, .string x.hold, .int .i64 x.pull, .int .i64 x.start, .int .i64 x.dies, .int .i64 x.grace] 36 wy) (by kernel_rfl) HX5.out.drew (fun hS => ?_)
   have HB : Hid (Below w5.heap.size w5 w5.drew) := (Below.refl _ _).drew
   generalize w5.drew = u at *
   refine ty 1 ⟨some 20, _, _, _, _, none⟩ (.slice (some ⟨g, 0, none⟩) xs.length q) rfl (by rfl) ?_ hS ?_
   ·intro wy hy
    clear hy
    go_simp
   simp only [pA, pB, pC, pD]
   refine tk 3 ⟨some 22, _, _, _, _, none⟩ (.agg #[.string x.copy, .int .i64 x.version, .string x.hold, .int .i64 x.pull, .int .i64 x.start, .int .i64 x.dies, .int .i64 x.grace]) rfl (yieldsIf_load_mid (by rfl) _ _ rfl gx (0) rfl [.string x.copy, .int .i64 x.version, .string x.hold, .int .i64 x.pull, .int .i64 x.start, .int .i64 x.dies, .int .i64 x.grace] _ (fun _ h => h.rangeA) Try.underlying36 rfl isz_Wnt) hS ?_
   simp only [pA, pB, pC, pD]
   refine wpAnyH_ready (rs := [0, 4]) (by kernel_rfl) (by simp) (AllReadyH.cons (o := ⟨some 19, _, _, _, _, none⟩) rfl (fun K hK => ?_) (AllReadyH.cons (o := ⟨some 23, _, _, _, _, none⟩) rfl (fun K hK => ?_) AllReadyH.nil))
   ·skip
    go_simp
    have hb : Below u.heap.size u (u.alloc (Obj.cells #[] 36)) := (Below.refl _ _).alloc (Nat.le_refl _) _
    have hga : w5.heap.size ≤ u.heap.size := HB.out.size
    have T1 : Hid ((u.alloc (Obj.cells #[] 36)).ownsRow u.heap.size 36 7 (.slice (some ⟨u.heap.size, 0, none⟩) 0 0) 0 []) := World.ownsRow_made u #[] 0 (Nat.le_refl _) (Nat.zero_le _) rfl
    replace HB := Hid.intro (HB.out.trans (hb.mono HB.out.size))
    have hal : u.heap.size < (u.alloc (Obj.cells #[] 36)).heap.size := by simp
    refine hK.out _ _ (HX5.out.below HB.out HX5.out.lt) (fun hS => ?_)
    clear hK K hb
    generalize u.alloc (Obj.cells #[] 36) = ua at *
    refine wpAnyH_ready (rs := [2, 4]) (by kernel_rfl) (by simp) (AllReadyH.cons (o := ⟨some 21, _, _, _, _, none⟩) rfl (fun K hK => ?_) (AllReadyH.cons (o := ⟨some 23, _, _, _, _, none⟩) rfl (fun K hK => ?_) AllReadyH.nil))
    ·skip
     rw [if_pos (by rfl)]
     have HBW := Hid.intro (hT5.trans (Bt.of_below (HB.out.mono hT5.size)))
     have hba2 : u.heap.size ≤ ua.heap.size := by have := (T1.out.lt _ rfl).2; omega
     refine wp_append_own (.tmp 19) (.tmp 20) 23 (by rfl) u.heap.size 36 iW _ 7 72 Try.underlying23 hiW hz0 hz1 hz2 rfl (by decide) _ 0 _ (by rfl) T1.out ⟨g, 0, none⟩ xs.length q (rvWnt xs) (by rfl) (by rw [rvWnt_len]) (news_of (ownsRow_below HO5.out HB.out)) (rvWnt_one xs) (by unfold maxLen; omega) (by omega) hba2 ?_
     intro v' uab hown hgrow hnil
     have hv : v' ≠ .slice none 0 0 := (fun e => by have h9 := (hnil.1 e).1; cases h9)
     have hown2 : uab.ownsRow (u.heap.size) 36 7 v' xs.length (rvWnt xs) := by simpa using hown
     obtain ⟨g2, q2, rfl⟩ := rowf hown2 hv
     have T2 := Hid.intro hown2
     replace HB : Hid (Below w5.heap.size w5 uab) := HB.out.grown hgrow HB.out.size (by intro k hk; cases hk; omega)
     refine hK.out _ _ (HX5.out.below HB.out HX5.out.lt) (fun hS => ?_)
     clear hK K hown hown2 hgrow hnil hv HBW T1
     refine rd1 4 ⟨some 23, _, _, _, _, none⟩ rfl (fun K hK => ?_)
     go_simp
     have hb : Below uab.heap.size uab (uab.alloc (Obj.cells #[.string x.copy, .int .i64 x.version, .string x.hold, .int .i64 x.pull, .int .i64 x.start, .int .i64 x.dies, .int .i64 x.grace] 36)) := (Below.refl _ _).alloc (Nat.le_refl _) _
     have NC : Hid (Blk uab.heap.size #[.string x.copy, .int .i64 x.version, .string x.hold, .int .i64 x.pull, .int .i64 x.start, .int .i64 x.dies, .int .i64 x.grace] 36 (uab.alloc (Obj.cells #[.string x.copy, .int .i64 x.version, .string x.hold, .int .i64 x.pull, .int .i64 x.start, .int .i64 x.dies, .int .i64 x.grace] 36))) := Blk.alloc _ _ _
     replace HB := Hid.intro (HB.out.trans (hb.mono HB.out.size))
     have hcl : uab.heap.size < (uab.alloc (Obj.cells #[.string x.copy, .int .i64 x.version, .string x.hold, .int .i64 x.pull, .int .i64 x.start, .int .i64 x.dies, .int .i64 x.grace] 36)).heap.size := by simp
     have hgc : g2 < uab.heap.size := (T2.out.lt g2 rfl).2
     replace T2 := Hid.intro (T2.out.alloc (Obj.cells #[.string x.copy, .int .i64 x.version, .string x.hold, .int .i64 x.pull, .int .i64 x.start, .int .i64 x.dies, .int .i64 x.grace] 36))
     refine hK.out _ _ (HX5.out.below HB.out HX5.out.lt) (fun hS => ?_)
     clear hK K hb
     generalize uab.alloc (Obj.cells #[.string x.copy, .int .i64 x.version, .string x.hold, .int .i64 x.pull, .int .i64 x.start, .int .i64 x.dies, .int .i64 x.grace] 36) = uabc at *
     refine rd1 5 ⟨some 24, _, _, _, _, none⟩ rfl (fun K hK => ?_)
     rw [if_pos (by rfl)]
     have hba3 : u.heap.size ≤ uabc.heap.size := by have := (T2.out.lt g2 rfl); omega
     refine wp_append_own (.tmp 21) (.tmp 23) 23 (by rfl) (u.heap.size) 36 iW _ 7 72 Try.underlying23 hiW hz0 hz1 hz2 rfl (by decide) _ xs.length _ (by rfl) T2.out ⟨uab.heap.size, 0, none⟩ 1 1 (rcWnt x) (by rfl) rfl (fun j u hj => by rw [Addr.add_mid]; exact NC.out.rangeA j u hj) (fun u hu => rvWnt_one [x] u (by simp only [rvWnt, List.append_nil]; exact hu)) (by unfold maxLen; omega) (by omega) hba3 ?_
     intro v' uabcd hown hgrow hnil
     have hv : v' ≠ .slice none 0 0 := (fun e => by have h9 := (hnil.1 e).2; cases h9)
     obtain ⟨g3, q3, rfl⟩ := rowf hown hv
     have T3 : Hid (uabcd.ownsRow (u.heap.size) 36 7 (.slice (some ⟨g3, 0, none⟩) (xs ++ [x]).length q3) (xs ++ [x]).length (rvWnt (xs ++ [x]))) := by
      show World.ownsRow _ _ _ _ _ _ _
      rw [rvW_app, show (xs ++ [x]).length = xs.length + 1 by simp]
      simp only [rvWnt, List.append_nil]
      exact hown
     replace HB : Hid (Below w5.heap.size w5 uabcd) := HB.out.grown hgrow HB.out.size (by intro k hk; have h9 := (T2.out.lt k hk).1; omega)
     refine hK.out _ _ (HX5.out.below HB.out HX5.out.lt) (fun hS => ?_)
     clear hK K hown hgrow hnil hv T2 NC
     obtain ⟨ys, hys⟩ : ∃ ys, ys = xs ++ [x] := ⟨_, rfl⟩
     have hyl : ys.length = xs.length + 1 := by rw [hys]; simp
     rw [← hys] at T3
     have HSY : Hid (SzWnt ys 1048576) := by rw [hys]; exact HS9
     clear hys
     refine rd1 6 ⟨some 25, _, _, _, _, none⟩ rfl (fun K hK => ?_)
     go_simp
     rw [← hyl]
     refine (specWantsOk_any ys (some ⟨g3, 0, none⟩) q3 _ _ (rowslWnt T3.out (by omega) HSY.out) (by omega)).mono ?_
     rintro e wz ⟨rfl, hb⟩
     replace HB := Hid.intro (HB.out.trans (hb.mono HB.out.size))
     refine hK.out _ _ (HX5.out.below HB.out HX5.out.lt) (fun hS => ?_)
     clear hK K hb
     refine wpAnyH_done (by kernel_rfl) ?_ _
     go_wp2_with fail
     go_meet
     exact ⟨_, rfl, HB⟩
    ·skip
     go_simp
     have hb : Below ua.heap.size ua (ua.alloc (Obj.cells #[.string x.copy, .int .i64 x.version, .string x.hold, .int .i64 x.pull, .int .i64 x.start, .int .i64 x.dies, .int .i64 x.grace] 36)) := (Below.refl _ _).alloc (Nat.le_refl _) _
     have NC : Hid (Blk ua.heap.size #[.string x.copy, .int .i64 x.version, .string x.hold, .int .i64 x.pull, .int .i64 x.start, .int .i64 x.dies, .int .i64 x.grace] 36 (ua.alloc (Obj.cells #[.string x.copy, .int .i64 x.version, .string x.hold, .int .i64 x.pull, .int .i64 x.start, .int .i64 x.dies, .int .i64 x.grace] 36))) := Blk.alloc _ _ _
     replace HB := Hid.intro (HB.out.trans (hb.mono HB.out.size))
     have hcl : ua.heap.size < (ua.alloc (Obj.cells #[.string x.copy, .int .i64 x.version, .string x.hold, .int .i64 x.pull, .int .i64 x.start, .int .i64 x.dies, .int .i64 x.grace] 36)).heap.size := by simp
     have hgc : u.heap.size < ua.heap.size := hal
     replace T1 := Hid.intro (T1.out.alloc (Obj.cells #[.string x.copy, .int .i64 x.version, .string x.hold, .int .i64 x.pull, .int .i64 x.start, .int .i64 x.dies, .int .i64 x.grace] 36))
     refine hK.out _ _ (HX5.out.below HB.out HX5.out.lt) (fun hS => ?_)
     clear hK K hb
     generalize ua.alloc (Obj.cells #[.string x.copy, .int .i64 x.version, .string x.hold, .int .i64 x.pull, .int .i64 x.start, .int .i64 x.dies, .int .i64 x.grace] 36) = uac at *
     refine rd1 2 ⟨some 21, _, _, _, _, none⟩ rfl (fun K hK => ?_)
     rw [if_pos (by rfl)]
     have HBW := Hid.intro (hT5.trans (Bt.of_below (HB.out.mono hT5.size)))
     have hba2 : u.heap.size ≤ uac.heap.size := by have := (T1.out.lt _ rfl).2; omega
     refine wp_append_own (.tmp 19) (.tmp 20) 23 (by rfl) u.heap.size 36 iW _ 7 72 Try.underlying23 hiW hz0 hz1 hz2 rfl (by decide) _ 0 _ (by rfl) T1.out ⟨g, 0, none⟩ xs.length q (rvWnt xs) (by rfl) (by rw [rvWnt_len]) (news_of (ownsRow_below HO5.out HB.out)) (rvWnt_one xs) (by unfold maxLen; omega) (by omega) hba2 ?_
     intro v' uacb hown hgrow hnil
     have hv : v' ≠ .slice none 0 0 := (fun e => by have h9 := (hnil.1 e).1; cases h9)
     have hown2 : uacb.ownsRow (u.heap.size) 36 7 v' xs.length (rvWnt xs) := by simpa using hown
     obtain ⟨g2, q2, rfl⟩ := rowf hown2 hv
     have T2 := Hid.intro hown2
     replace HB : Hid (Below w5.heap.size w5 uacb) := HB.out.grown hgrow HB.out.size (by intro k hk; cases hk; omega)
     replace NC := Hid.intro (blk_gr (b := u.heap.size) NC.out hgrow (by omega))
     skip
     refine hK.out _ _ (HX5.out.below HB.out HX5.out.lt) (fun hS => ?_)
     clear hK K hown hown2 hgrow hnil hv HBW T1
     refine rd1 5 ⟨some 24, _, _, _, _, none⟩ rfl (fun K hK => ?_)
     rw [if_pos (by rfl)]
     have hba3 : u.heap.size ≤ uacb.heap.size := by have := (T2.out.lt g2 rfl); omega
     refine wp_append_own (.tmp 21) (.tmp 23) 23 (by rfl) (u.heap.size) 36 iW _ 7 72 Try.underlying23 hiW hz0 hz1 hz2 rfl (by decide) _ xs.length _ (by rfl) T2.out ⟨ua.heap.size, 0, none⟩ 1 1 (rcWnt x) (by rfl) rfl (fun j u hj => by rw [Addr.add_mid]; exact NC.out.rangeA j u hj) (fun u hu => rvWnt_one [x] u (by simp only [rvWnt, List.append_nil]; exact hu)) (by unfold maxLen; omega) (by omega) hba3 ?_
     intro v' uacbd hown hgrow hnil
     have hv : v' ≠ .slice none 0 0 := (fun e => by have h9 := (hnil.1 e).2; cases h9)
     obtain ⟨g3, q3, rfl⟩ := rowf hown hv
     have T3 : Hid (uacbd.ownsRow (u.heap.size) 36 7 (.slice (some ⟨g3, 0, none⟩) (xs ++ [x]).length q3) (xs ++ [x]).length (rvWnt (xs ++ [x]))) := by
      show World.ownsRow _ _ _ _ _ _ _
      rw [rvW_app, show (xs ++ [x]).length = xs.length + 1 by simp]
      simp only [rvWnt, List.append_nil]
      exact hown
     replace HB : Hid (Below w5.heap.size w5 uacbd) := HB.out.grown hgrow HB.out.size (by intro k hk; have h9 := (T2.out.lt k hk).1; omega)
     refine hK.out _ _ (HX5.out.below HB.out HX5.out.lt) (fun hS => ?_)
     clear hK K hown hgrow hnil hv T2 NC
     obtain ⟨ys, hys⟩ : ∃ ys, ys = xs ++ [x] := ⟨_, rfl⟩
     have hyl : ys.length = xs.length + 1 := by rw [hys]; simp
     rw [← hys] at T3
     have HSY : Hid (SzWnt ys 1048576) := by rw [hys]; exact HS9
     clear hys
     refine rd1 6 ⟨some 25, _, _, _, _, none⟩ rfl (fun K hK => ?_)
     go_simp
     rw [← hyl]
     refine (specWantsOk_any ys (some ⟨g3, 0, none⟩) q3 _ _ (rowslWnt T3.out (by omega) HSY.out) (by omega)).mono ?_
     rintro e wz ⟨rfl, hb⟩
     replace HB := Hid.intro (HB.out.trans (hb.mono HB.out.size))
     refine hK.out _ _ (HX5.out.below HB.out HX5.out.lt) (fun hS => ?_)
     clear hK K hb
     refine wpAnyH_done (by kernel_rfl) ?_ _
     go_wp2_with fail
     go_meet
     exact ⟨_, rfl, HB⟩
   ·skip
    go_simp
    have hb : Below u.heap.size u (u.alloc (Obj.cells #[.string x.copy, .int .i64 x.version, .string x.hold, .int .i64 x.pull, .int .i64 x.start, .int .i64 x.dies, .int .i64 x.grace] 36)) := (Below.refl _ _).alloc (Nat.le_refl _) _
    have NC : Hid (Blk u.heap.size #[.string x.copy, .int .i64 x.version, .string x.hold, .int .i64 x.pull, .int .i64 x.start, .int .i64 x.dies, .int .i64 x.grace] 36 (u.alloc (Obj.cells #[.string x.copy, .int .i64 x.version, .string x.hold, .int .i64 x.pull, .int .i64 x.start, .int .i64 x.dies, .int .i64 x.grace] 36))) := Blk.alloc _ _ _
    replace HB := Hid.intro (HB.out.trans (hb.mono HB.out.size))
    have hcl : u.heap.size < (u.alloc (Obj.cells #[.string x.copy, .int .i64 x.version, .string x.hold, .int .i64 x.pull, .int .i64 x.start, .int .i64 x.dies, .int .i64 x.grace] 36)).heap.size := by simp
    refine hK.out _ _ (HX5.out.below HB.out HX5.out.lt) (fun hS => ?_)
    clear hK K hb
    generalize u.alloc (Obj.cells #[.string x.copy, .int .i64 x.version, .string x.hold, .int .i64 x.pull, .int .i64 x.start, .int .i64 x.dies, .int .i64 x.grace] 36) = uc at *
    refine rd1 0 ⟨some 19, _, _, _, _, none⟩ rfl (fun K hK => ?_)
    go_simp
    have hb : Below uc.heap.size uc (uc.alloc (Obj.cells #[] 36)) := (Below.refl _ _).alloc (Nat.le_refl _) _
    have hga : w5.heap.size ≤ uc.heap.size := HB.out.size
    have T1 : Hid ((uc.alloc (Obj.cells #[] 36)).ownsRow uc.heap.size 36 7 (.slice (some ⟨uc.heap.size, 0, none⟩) 0 0) 0 []) := World.ownsRow_made uc #[] 0 (Nat.le_refl _) (Nat.zero_le _) rfl
    replace HB := Hid.intro (HB.out.trans (hb.mono HB.out.size))
    replace NC := Hid.intro (NC.out.below hb NC.out.lt)
    have hgc : u.heap.size < uc.heap.size := hcl
    have hal : uc.heap.size < (uc.alloc (Obj.cells #[] 36)).heap.size := by simp
    refine hK.out _ _ (HX5.out.below HB.out HX5.out.lt) (fun hS => ?_)
    clear hK K hb
    generalize uc.alloc (Obj.cells #[] 36) = uca at *
    refine rd1 2 ⟨some 21, _, _, _, _, none⟩ rfl (fun K hK => ?_)
    rw [if_pos (by rfl)]
    have HBW := Hid.intro (hT5.trans (Bt.of_below (HB.out.mono hT5.size)))
    have hba2 : uc.heap.size ≤ uca.heap.size := by have := (T1.out.lt _ rfl).2; omega
    refine wp_append_own (.tmp 19) (.tmp 20) 23 (by rfl) uc.heap.size 36 iW _ 7 72 Try.underlying23 hiW hz0 hz1 hz2 rfl (by decide) _ 0 _ (by rfl) T1.out ⟨g, 0, none⟩ xs.length q (rvWnt xs) (by rfl) (by rw [rvWnt_len]) (news_of (ownsRow_below HO5.out HB.out)) (rvWnt_one xs) (by unfold maxLen; omega) (by omega) hba2 ?_
    intro v' ucab hown hgrow hnil
    have hv : v' ≠ .slice none 0 0 := (fun e => by have h9 := (hnil.1 e).1; cases h9)
    have hown2 : ucab.ownsRow (uc.heap.size) 36 7 v' xs.length (rvWnt xs) := by simpa using hown
    obtain ⟨g2, q2, rfl⟩ := rowf hown2 hv
    have T2 := Hid.intro hown2
    replace HB : Hid (Below w5.heap.size w5 ucab) := HB.out.grown hgrow HB.out.size (by intro k hk; cases hk; omega)
    replace NC := Hid.intro (blk_gr (b := uc.heap.size) NC.out hgrow (by omega))
    skip
    refine hK.out _ _ (HX5.out.below HB.out HX5.out.lt) (fun hS => ?_)
    clear hK K hown hown2 hgrow hnil hv HBW T1
    refine rd1 5 ⟨some 24, _, _, _, _, none⟩ rfl (fun K hK => ?_)
    rw [if_pos (by rfl)]
    have hba3 : uc.heap.size ≤ ucab.heap.size := by have := (T2.out.lt g2 rfl); omega
    refine wp_append_own (.tmp 21) (.tmp 23) 23 (by rfl) (uc.heap.size) 36 iW _ 7 72 Try.underlying23 hiW hz0 hz1 hz2 rfl (by decide) _ xs.length _ (by rfl) T2.out ⟨u.heap.size, 0, none⟩ 1 1 (rcWnt x) (by rfl) rfl (fun j u hj => by rw [Addr.add_mid]; exact NC.out.rangeA j u hj) (fun u hu => rvWnt_one [x] u (by simp only [rvWnt, List.append_nil]; exact hu)) (by unfold maxLen; omega) (by omega) hba3 ?_
    intro v' ucabd hown hgrow hnil
    have hv : v' ≠ .slice none 0 0 := (fun e => by have h9 := (hnil.1 e).2; cases h9)
    obtain ⟨g3, q3, rfl⟩ := rowf hown hv
    have T3 : Hid (ucabd.ownsRow (uc.heap.size) 36 7 (.slice (some ⟨g3, 0, none⟩) (xs ++ [x]).length q3) (xs ++ [x]).length (rvWnt (xs ++ [x]))) := by
     show World.ownsRow _ _ _ _ _ _ _
     rw [rvW_app, show (xs ++ [x]).length = xs.length + 1 by simp]
     simp only [rvWnt, List.append_nil]
     exact hown
    replace HB : Hid (Below w5.heap.size w5 ucabd) := HB.out.grown hgrow HB.out.size (by intro k hk; have h9 := (T2.out.lt k hk).1; omega)
    refine hK.out _ _ (HX5.out.below HB.out HX5.out.lt) (fun hS => ?_)
    clear hK K hown hgrow hnil hv T2 NC
    obtain ⟨ys, hys⟩ : ∃ ys, ys = xs ++ [x] := ⟨_, rfl⟩
    have hyl : ys.length = xs.length + 1 := by rw [hys]; simp
    rw [← hys] at T3
    have HSY : Hid (SzWnt ys 1048576) := by rw [hys]; exact HS9
    clear hys
    refine rd1 6 ⟨some 25, _, _, _, _, none⟩ rfl (fun K hK => ?_)
    go_simp
    rw [← hyl]
    refine (specWantsOk_any ys (some ⟨g3, 0, none⟩) q3 _ _ (rowslWnt T3.out (by omega) HSY.out) (by omega)).mono ?_
    rintro e wz ⟨rfl, hb⟩
    replace HB := Hid.intro (HB.out.trans (hb.mono HB.out.size))
    refine hK.out _ _ (HX5.out.below HB.out HX5.out.lt) (fun hS => ?_)
    clear hK K hb
    refine wpAnyH_done (by kernel_rfl) ?_ _
    go_wp2_with fail
    go_meet
    exact ⟨_, rfl, HB⟩
  case rest =>
   obtain ⟨t, rfl, HB⟩ := hcut
   have HX6 := Hid.intro (HX5.out.below HB.out HX5.out.lt)
   have HR6 := Hid.intro (HR5.out.below HB.out HR5.out.lt)
   have HO6 := Hid.intro (ownsRow_below HO5.out HB.out)
   have hT6 : Bt p w.heap.size w wc := hT5.trans (Bt.of_below (HB.out.mono hT5.size))
   clear HB HX5 HR5 HO5 hT5
   generalize wc = w6 at *
   cases t with
   | false =>
    go_wp2_with fail
    go_roundw
    case rel => first | exact ⟨j + 1, xs, g, q, K + 1 + 6, by omega, by go_num, rfl, by omega, HO6, HS, by omega, HR6, hT6⟩ | ((repeat apply Exists.intro); exact ⟨⟨j + 1, xs, g, q, K + 1 + 6, by omega, by go_num, rfl, by omega, HO6, HS, by omega, HR6, hT6⟩, rfl⟩)
    case measure => simp [intOf]; omega
   | true =>
    obtain ⟨NV, hnv⟩ : ∃ l, l = rcWnt x := ⟨_, rfl⟩
    have HNV := Hid.intro hnv
    clear hnv
    have HNL : Hid (NV.length = 1 * 7) := by show _ = _; rw [HNV.out]; rfl
    have HNN : Hid (∀ j u, NV[j]? = some u → (w6.alloc (Obj.cells #[.string x.copy, .int .i64 x.version, .string x.hold, .int .i64 x.pull, .int .i64 x.start, .int .i64 x.dies, .int .i64 x.grace] 36)).cell? ((⟨w6.heap.size, 0, none⟩ : Addr).add j) = some u) := by
     intro j u hj
     rw [Addr.add_mid]
     rw [HNV.out] at hj
     exact (Blk.alloc w6 #[.string x.copy, .int .i64 x.version, .string x.hold, .int .i64 x.pull, .int .i64 x.start, .int .i64 x.dies, .int .i64 x.grace] 36).rangeA j u hj
    have HN1 : Hid (∀ u ∈ NV, u.oneCell' = true) := by
     intro u hu
     rw [HNV.out] at hu
     exact rvWnt_one [x] u (by simp only [rvWnt, List.append_nil]; exact hu)
    have HOA := Hid.intro (HO6.out.alloc (Obj.cells #[.string x.copy, .int .i64 x.version, .string x.hold, .int .i64 x.pull, .int .i64 x.start, .int .i64 x.dies, .int .i64 x.grace] 36))
    have hws : w.heap.size ≤ w6.heap.size := hT6.size
    go_upto_region 8 with fail
    go_wp2_with (first | (refine wpList_load_mid rfl 36 _ rfl gx 0 rfl [.string x.copy, .int .i64 x.version, .string x.hold, .int .i64 x.pull, .int .i64 x.start, .int .i64 x.dies, .int .i64 x.grace] _ HX6.out.rangeA Try.underlying36 rfl isz_Wnt ?_) | (at_builtin; refine wpList_append_own _ rfl _ _ 23 rfl w.heap.size 36 iW _ 7 72 Try.underlying23 hiW hz0 hz1 hz2 rfl (by decide) _ xs.length _ rfl HOA.out ⟨w6.heap.size, 0, none⟩ 1 1 NV rfl HNL.out HNN.out HN1.out (by unfold maxLen; omega) (by omega) (by simp; omega) ?_; intro v' w8 hown8 hgrow8 hnil8; have hv8 : v' ≠ .slice none 0 0 := (fun e => by have h9 := (hnil8.1 e).2; cases h9); obtain ⟨g8, q8, rfl⟩ := rowf hown8 hv8))
    have HO8 : Hid (w8.ownsRow w.heap.size 36 7 (.slice (some ⟨g8, 0, none⟩) (xs ++ [x]).length q8) (xs ++ [x]).length (rvWnt (xs ++ [x]))) := by
     show World.ownsRow _ _ _ _ _ _ _
     rw [rvW_app, show (xs ++ [x]).length = xs.length + 1 by simp]
     rw [HNV.out] at hown8
     simp only [rvWnt, List.append_nil]
     exact hown8
    have hb8 : Below w6.heap.size w6 (w6.alloc (Obj.cells #[.string x.copy, .int .i64 x.version, .string x.hold, .int .i64 x.pull, .int .i64 x.start, .int .i64 x.dies, .int .i64 x.grace] 36)) := (Below.refl _ _).alloc (Nat.le_refl _) _
    have hT8 : Bt p w.heap.size w w8 := (hT6.trans (Bt.of_below (hb8.mono hws))).trans (bt_grown hgrow8 (own_blk HO6.out) (by simp; omega))
    have HR8 := Hid.intro ((HR6.out.below hb8 HR6.out.lt).grown hgrow8 (own_blk HO6.out) hp)
    have hxl : (xs ++ [x]).length = xs.length + 1 := by simp
    clear hown8 hgrow8 hnil8 hv8 hb8 HOA HNN HN1 HNL HNV
    go_wp2_with fail
    go_roundw
    case rel => first | exact ⟨j + 1, xs ++ [x], g8, q8, K + 1 + 6, by omega, by go_num, by rw [hxl], by rw [hxl]; omega, HO8, HS8, by omega, HR8, hT8⟩ | ((repeat apply Exists.intro); exact ⟨⟨j + 1, xs ++ [x], g8, q8, K + 1 + 6, by omega, by go_num, by rw [hxl], by rw [hxl]; omega, HO8, HS8, by omega, HR8, hT8⟩, rfl⟩)
    case measure => simp [intOf]; omega

end Go.Proofs.Ytnifmiacobfplaa
