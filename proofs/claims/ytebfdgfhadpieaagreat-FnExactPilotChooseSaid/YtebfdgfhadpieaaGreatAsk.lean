import Derived.Test.YtebfdgfhadpieaaGreatJ32
import Derived.Deep.AppendLies
import Derived.Deep.Onto
import Derived.Lib.SliceRun
namespace Go.Proofs.YtebfdgfhadpieaaGreat
set_option maxRecDepth 100000
open Go.RowKit Go.WideMaps Go.Maps
theorem strRow_at {ms : List ByteArray} {j : Nat} {u : Value} (h : (ms.map Value.string)[j]? = some u) : ∃ s, ms[j]? = some s ∧ u = .string s := by
 rw [List.getElem?_map] at h
 cases e : ms[j]? with
 | none => rw [e] at h; cases h
 | some s => rw [e] at h; cases h; exact ⟨s, rfl, rfl⟩
theorem strRow_one (ms : List ByteArray) : ∀ u ∈ ms.map Value.string, u.oneCell' = true := by
 intro u hu
 obtain ⟨x, _, rfl⟩ := List.mem_map.1 hu
 rfl
theorem sliceC_of_strs {w : World} {base g cap lo : Nat} {e : TypeId} {ms : List ByteArray} (h : w.ownsRow base e 1 (.slice (some ⟨g, 0, none⟩) ms.length cap) ms.length (ms.map Value.string)) (hz : ∀ s ∈ ms, s.size ≤ maxLen) (hm : ms.length ≤ maxLen) (hlo : lo ≤ base) : SliceC StrC 1 lo w (some ⟨g, 0, none⟩) ms := by
 have hg := h.lt g rfl
 refine ⟨hm, .inr ⟨g, 0, rfl, ⟨by omega, fun _ p => h.frozenAt p⟩, hg.2, fun j x hj => ⟨?_, hz x (List.mem_of_getElem? hj)⟩⟩⟩
 have hlt := lt_of_some hj
 have := h.cellAt (j * 1 + 0) (by simp; omega)
 simp only [Nat.mul_one, Nat.add_zero, List.getElem?_map, hj, Option.map_some] at this
 simpa using this
set_option maxHeartbeats 2000000 in
theorem sclone_any (ms : List ByteArray) (a : Option Addr) (cap lo : Nat) (w : World) (hin : SliceC StrC 1 lo w a ms) (hml : ms.length ≤ 1000) :
  Calls Tryz.prog 137 #[.slice a ms.length cap] w fun e w' => ∃ v, e = .returned v ∧ w'.ownsRow w.heap.size 9 1 v ms.length (ms.map Value.string) ∧ Below w.heap.size w w' := by
 obtain ⟨i0, hi, hz0, hz1, hz2⟩ := info_parts info_str
 have q22 : ∀ (w : World) (a : Option Addr) (n c n' c' : Nat), (binOp .eql 59 (.slice a n c) (.slice none n' c')).run Tryz.prog w = .ok (.bool a.isNone) w := fun w a n c n' c' => Lib.run_eql_slice_nil w _ _ a n c n' c' Tryz.underlying59
 have HI : Hid (SliceC StrC 1 lo w a ms) := hin
 clear hin
 go_enter Tryz.func137, Tryz.ntmps137
 cases a with
 | none =>
  have hm0 : ms = [] := by
   rcases HI.out.2 with h | ⟨b, o, h, _⟩
   ·exact h
   ·cases h
  subst hm0
  go_wp2
  go_ret
  exact ⟨_, rfl, World.ownsRow_nil _ _ _ _, Below.refl _ _⟩
 | some ad =>
  have HS : Hid (∀ j u, (ms.map Value.string)[j]? = some u → w.cell? (ad.add j) = some u) := by
   intro j u hj
   obtain ⟨s, hs, rfl⟩ := strRow_at hj
   obtain ⟨b, o, e, _, _, hc⟩ := HI.out.at hs
   cases e
   have := hc.1
   simp only [Nat.mul_one, Nat.add_zero] at this
   rw [Addr.add_lit]
   exact this
  go_wp2_with (at_builtin; refine wpList_append_own _ rfl _ _ 59 rfl w.heap.size 9 i0 (.string ⟨#[]⟩) 1 16 Tryz.underlying59 hi hz0 hz1 hz2 rfl (by decide) _ _ _ rfl (World.ownsRow_made w #[] 0 nL (Nat.zero_le _) rfl) ad ms.length _ (ms.map Value.string) rfl (by simp) (fun j u hj => Lib.cell?_alloc_some _ (HS.out j u hj)) (strRow_one ms) (by unfold maxLen; omega) (by omega) (by simp) ?_; intro v' w1 hown hgrow hnil)
  go_ret
  exact ⟨v', rfl, by simpa using hown, ((Below.refl _ w).alloc nL _).grown hgrow (by simp) (by intro k hk; cases hk; exact Nat.le_refl _)⟩
abbrev zoneB : ByteArray := ⟨#[122, 111, 110, 101, 61]⟩
def zMarks (ms : List ByteArray) (z : ByteArray) : List ByteArray := ms ++ [zoneB ++ z]
def asksI (t : ByteArray) (ms : List ByteArray) (z : ByteArray) : Bool := decide (codeOf t = 0) && meetsK (keysR (zMarks ms z) (zMarks ms z).length) (treeOf t)
def TwoZ (p : Nat) (l r : Value) (w : World) : Prop := w.cell? ⟨p, 1, none⟩ = some l ∧ w.cell? ⟨p, 2, none⟩ = some r
theorem TwoZ.below {p : Nat} {l r : Value} {w w' : World} (h : TwoZ p l r w) (hb : Below w.heap.size w w') : TwoZ p l r w' := ⟨(hb.cell (p := ⟨p, 1, none⟩) (block_lt_of_cell h.1)).trans h.1, (hb.cell (p := ⟨p, 2, none⟩) (block_lt_of_cell h.2)).trans h.2⟩
theorem TwoZ.grownZ {p : Nat} {l r v : Value} {w w' : World} (h : TwoZ p l r w) (g : w.grownBy w' v.ownBlock) (hn : v.ownBlock ≠ some p) : TwoZ p l r w' := ⟨g.cell h.1 (fun e => hn e.symm), g.cell h.2 (fun e => hn e.symm)⟩
theorem step_methA {P : Program} {ops : Array Oper} {o : Oper} {a : Act} {K : Act → World → Prop} {Q : Exit → Act → World → Prop} {E : Prop} {w : World}
  (hg : o.guard = none) (x : Operand) (name : String) (qs : Array Operand) (ts : Array TypeId)
  (ho : o.op = .call { callee := .invoke x name, args := qs, argTypes := ts })
  (xv : Value) (hx : a.eval x = xv) (bs : Array Value) (hq : qs.map a.eval = bs) (R : Value → World → Prop) (hm : Meth P xv name bs w R)
  (h : ∀ u w', R u w' → K (a.put o.dst u) w') : if Region.wanted o (yielded ops a.tmps) = true then Oper.wp P o a w K Q else E := by
 rw [if_pos (by simp [Region.wanted, hg])]
 obtain ⟨f, bs', hr, hc⟩ := hm
 subst hx
 subst hq
 have hrun : (execOp a.eval o).run P w = .ok (.enter f bs') w := by
  unfold execOp
  simp only [ho, resolve, invoke, Sem.run_bind, Sem.run_pure, Result.andThen_ok]
  rw [extract_one]
  simp only [Array.getElem?_append, List.size_toArray, List.length_cons, List.length_nil]
  simp only [Nat.zero_add, Nat.lt_one_iff, if_true]
  exact hr
 unfold Oper.wp
 rw [hrun, Oper.upon_enter]
 refine hc.mono ?_
 rintro e w' ⟨u, rfl, hR⟩
 exact h u w' hR
structure MeetsNil (name : String) : Prop where
 c0 : ∀ w, (nilAhead (Tryz.prog.types.size + Made.depth) 210 (.agg #[]) name).run Tryz.prog w = .ok (some false) w
 c1 : ∀ n w, (nilAhead (Tryz.prog.types.size + Made.depth) 236 (.agg #[.string n]) name).run Tryz.prog w = .ok (some false) w
 c2 : ∀ n m w, (nilAhead (Tryz.prog.types.size + Made.depth) 238 (.agg #[.string n, .string m]) name).run Tryz.prog w = .ok (some false) w
 c3 : ∀ x h w, (nilAhead (Tryz.prog.types.size + Made.depth) 232 (.agg #[x, .int .i64 h]) name).run Tryz.prog w = .ok (some false) w
 c4 : ∀ x y h w, (nilAhead (Tryz.prog.types.size + Made.depth) 230 (.agg #[x, y, .int .i64 h]) name).run Tryz.prog w = .ok (some false) w
 c5 : ∀ x y h w, (nilAhead (Tryz.prog.types.size + Made.depth) 228 (.agg #[x, y, .int .i64 h]) name).run Tryz.prog w = .ok (some false) w
theorem nil_ok {name : String} (H : MeetsNil name) {t : P.Tr} (hw : P.wf t) {ty : TypeId} {x : Value} (hv : Hid (val t = .iface ty x)) (w : World) : (nilAhead (Tryz.prog.types.size + Made.depth) ty x name).run Tryz.prog w = .ok (some false) w := by
 have hv := hv.out
 rcases P.wf_cases hw with rfl | ⟨n, rfl⟩ | ⟨n, v, rfl⟩ | ⟨k, hk, rfl⟩ | ⟨a, b, ha, hb, rfl⟩ | ⟨a, b, ha, hb, rfl⟩
 ·rw [val_non] at hv; cases hv; exact H.c0 w
 ·rw [val_nm] at hv; cases hv; exact H.c1 _ w
 ·rw [val_vl] at hv; cases hv; exact H.c2 _ _ w
 ·rw [val_nt] at hv; cases hv; exact H.c3 _ _ w
 ·rw [val_an] at hv; cases hv; exact H.c4 _ _ _ w
 ·rw [val_or] at hv; cases hv; exact H.c5 _ _ _ w
theorem run_nilCheck_meth {P : Program} {ρ ρ' : Operand → Value} {o : Oper} {x q : Operand} {name : String} {caps : Array Value} {ty : TypeId} {y : Value} (ho : o.op = .nilCheck x) (hx : ρ x = .func (.method name) (#[q].map ρ') caps) (hq : ρ' q = .iface ty y)
  (hn : ∀ w, (nilAhead (P.types.size + Made.depth) ty y name).run P w = .ok (some false) w) (w : World) : (execOp ρ o).run P w = .ok (.value (.func (.method name) (#[q].map ρ') caps)) w := by
 have hp : Sem.run P program w = .ok P w := rfl
 unfold execOp
 simp [ho, hx, hq, hp, hn, Result.andThen]
theorem zMarks_sl {w : World} {base g cap : Nat} {ms : List ByteArray} {z : ByteArray} (h : w.ownsRow base 9 1 (.slice (some ⟨g, 0, none⟩) (ms.length + 1) cap) (ms.length + 1) (ms.map Value.string ++ [.string (zoneB ++ z)])) (hz : ∀ s ∈ ms, s.size ≤ maxLen) (hs : z.size ≤ 1000) (hl : ms.length ≤ 1000) : SliceC StrC 1 0 w (some ⟨g, 0, none⟩) (zMarks ms z) := by
 have hlen : (zMarks ms z).length = ms.length + 1 := by simp [zMarks]
 have hmap : (zMarks ms z).map Value.string = ms.map Value.string ++ [.string (zoneB ++ z)] := by simp [zMarks]
 refine sliceC_of_strs (cap := cap) (base := base) (e := 9) ?_ ?_ ?_ (Nat.zero_le _)
 ·rw [hlen, hmap]; exact h
 ·intro s hs'
  rcases List.mem_append.1 hs' with h | h
  ·exact hz s h
  ·rw [List.mem_singleton.1 h, ByteArray.size_append]
   have : zoneB.size = 5 := rfl
   unfold maxLen
   omega
 ·rw [hlen]; unfold maxLen; omega
theorem oneStr {w : World} {sb : Nat} {u : Value} (h : w.cell? ⟨sb, 0, none⟩ = some u) : ∀ j x, [u][j]? = some x → w.cell? ((⟨sb, 0, none⟩ : Addr).add j) = some x := by
 intro j x hj
 cases j with
 | zero => cases hj; rw [Addr.add_lit]; exact h
 | succ j => simp at hj
set_option maxHeartbeats 2000000 in
theorem asksFor_any (t nm z : ByteArray) (ms : List ByteArray) (a : Option Addr) (cap lo : Nat) (rm hd : Int) (cl : Bool) (w : World) (hin : SliceC StrC 1 lo w a ms) (hml : ms.length ≤ 1000) (hz : z.size ≤ 1000) (ht : t.size ≤ maxLen)
  (hwf : codeOf t = 0 → P.wf (treeOf t)) (hsh : codeOf t = 0 → shortT (treeOf t)) (hsz : ∀ s ∈ ms, s.size ≤ maxLen) :
  Calls Tryz.prog 127 #[.string t, .agg #[.string nm, .string z, .slice a ms.length cap, .int .i64 rm, .int .i64 hd, .bool cl]] w fun e w' => e = .returned (.bool (asksI t ms z)) ∧ Below w.heap.size w w' := by
 obtain ⟨i0, hi, hz0, hz1, hz2⟩ := info_parts info_str
 have HI : Hid (SliceC StrC 1 lo w a ms) := hin
 have HWF : Hid (codeOf t = 0 → P.wf (treeOf t)) := hwf
 have HSH : Hid (codeOf t = 0 → shortT (treeOf t)) := hsh
 have HSZ : Hid (∀ s ∈ ms, s.size ≤ maxLen) := hsz
 clear hin hwf hsh hsz
 go_enter Tryz.func127, Tryz.ntmps127
 go_upto_region 1 with fail
 have hal : Below w.heap.size w (w.alloc (Obj.cells #[.string nm, .string z, .slice a ms.length cap, .int .i64 rm, .int .i64 hd, .bool cl] 61)) := (Below.refl _ _).alloc nL _
 have e1 : (w.alloc (Obj.cells #[.string nm, .string z, .slice a ms.length cap, .int .i64 rm, .int .i64 hd, .bool cl] 61)).cell? ⟨w.heap.size, 1, none⟩ = some (.string z) := by simp
 have e2 : (w.alloc (Obj.cells #[.string nm, .string z, .slice a ms.length cap, .int .i64 rm, .int .i64 hd, .bool cl] 61)).cell? ⟨w.heap.size, 2, none⟩ = some (.slice a ms.length cap) := by simp
 have HI1 : Hid (SliceC StrC 1 lo (w.alloc (Obj.cells #[.string nm, .string z, .slice a ms.length cap, .int .i64 rm, .int .i64 hd, .bool cl] 61)) a ms) := HI.out.below StrC.holds hal nL
 have HB1 : Hid (Below w.heap.size w (w.alloc (Obj.cells #[.string nm, .string z, .slice a ms.length cap, .int .i64 rm, .int .i64 hd, .bool cl] 61))) := hal
 clear hal HI
 generalize (w.alloc (Obj.cells #[.string nm, .string z, .slice a ms.length cap, .int .i64 rm, .int .i64 hd, .bool cl] 61)) = w1 at *
 go_wp2_with fail
 refine (read_any t _ ht).mono ?_
 rintro e w2 ⟨hr, hb2⟩
 have HE1 : Hid (w2.cell? ⟨w.heap.size, 1, none⟩ = some (.string z)) := (hb2.cell (p := ⟨w.heap.size, 1, none⟩) (block_lt_of_cell e1)).trans e1
 have HE2 : Hid (w2.cell? ⟨w.heap.size, 2, none⟩ = some (.slice a ms.length cap)) := (hb2.cell (p := ⟨w.heap.size, 2, none⟩) (block_lt_of_cell e2)).trans e2
 have HI2 : Hid (SliceC StrC 1 lo w2 a ms) := HI1.out.below StrC.holds hb2 nL
 have HB2 : Hid (Below w.heap.size w w2) := HB1.out.trans (hb2.mono HB1.out.size)
 clear hb2 e1 e2 HI1 HB1
 rcases hr with ⟨hc, rfl⟩ | ⟨hc, q, rfl⟩
 ·have HC : Hid (codeOf t = 0) := hc
  have hw := HWF.out hc
  obtain ⟨tz, x, hv⟩ := val_iface hw
  rw [hv]
  have HV : Hid (val (treeOf t) = .iface tz x) := hv
  have HW : Hid (P.wf (treeOf t)) := hw
  clear hc hv hw
  go_upto_region 5 with fail
  have HB3 : Hid (Below w.heap.size w w2.drew) := HB2.out.drew
  have HI3 : Hid (SliceC StrC 1 lo w2.drew a ms) := HI2.out.below StrC.holds ((Below.refl _ w2).drew) nL
  refine wp_region_held_drew (S := TwoZ w.heap.size (.string z) (.slice a ms.length cap)) (by kernel_rfl) (by simpa [TwoZ] using ⟨HE1.out, HE2.out⟩) (fun hS => ?_)
  generalize w2.drew = w3 at *
  clear HB2 HI2 HE1 HE2
  refine x5 0 15 (.pointer (some ⟨w.heap.size, 2, none⟩)) rfl hS ?_
  simp only [pA,pB,pC,pD]
  refine x5 1 16 (.slice a ms.length cap) rfl hS ?_
  simp only [pA,pB,pC,pD]
  refine x5 3 18 (.pointer (some ⟨w.heap.size, 1, none⟩)) rfl hS ?_
  simp only [pA,pB,pC,pD]
  refine x5 4 19 (.string z) rfl hS ?_
  simp only [pA,pB,pC,pD]
  refine ty 5 ⟨some 20, _, _, _, _, none⟩ (.string (zoneB ++ z)) rfl (by rfl) ?_ hS ?_
  ·intro wy hy
   obtain ⟨y0, y1⟩ := hy
   go_simp
   omega
  simp only [pA,pB,pC,pD]
  refine wpAnyH_ready (rs := [2, 6]) (by kernel_rfl) (by simp) (AllReadyH.cons (o := ⟨some 17, _, _, _, _, none⟩) rfl (fun K hK => ?_) (AllReadyH.cons (o := ⟨some 21, _, _, _, _, none⟩) rfl (fun K hK => ?_) AllReadyH.nil))
  ·go_simp
   refine (sclone_any ms a cap lo _ HI3.out hml).mono ?_
   rintro e w4 ⟨v, rfl, ho, hb⟩
   have HO4 : Hid (w4.ownsRow w.heap.size 9 1 v ms.length (ms.map Value.string)) := World.ownsRow.mono ho HB3.out.size
   have HNB4 : Hid (∀ i, v.ownBlock = some i → w3.heap.size ≤ i) := fun i hi => (ho.lt i hi).1
   have HB4 : Hid (Below w.heap.size w w4) := HB3.out.trans (hb.mono HB3.out.size)
   have HNE : Hid (v.ownBlock ≠ some w.heap.size) := by
    intro e
    have := HNB4.out _ e
    have h2 : w.heap.size < w3.heap.size := block_lt_of_cell hS.1
    omega
   refine hK.out _ _ (hS.below hb) (fun hS => ?_)
   clear ho hb HB3 HI3 HNB4
   clear hK K
   refine rd1 6 ⟨some 21, _, _, _, _, none⟩ rfl (fun K hK => ?_)
   go_simp
   have hal : Below w4.heap.size w4 (w4.alloc (Obj.cells #[.string (zoneB ++ z)] 9)) := (Below.refl _ _).alloc nL _
   have HB5 : Hid (Below w.heap.size w (w4.alloc (Obj.cells #[.string (zoneB ++ z)] 9))) := HB4.out.trans (hal.mono HB4.out.size)
   have HA5 : Hid ((w4.alloc (Obj.cells #[.string (zoneB ++ z)] 9)).cell? ⟨w4.heap.size, 0, none⟩ = some (.string (zoneB ++ z))) := by show _ = _; simp
   have HO5 : Hid ((w4.alloc (Obj.cells #[.string (zoneB ++ z)] 9)).ownsRow w.heap.size 9 1 v ms.length (ms.map Value.string)) := ownsRow_below HO4.out hal
   have HQ5 : Hid (v.ownBlock ≠ some w4.heap.size) := by
    intro e
    have := (HO4.out.lt _ e).2
    omega
   refine hK.out _ _ (hS.below hal) (fun hS => ?_)
   clear hal HB4 HO4
   generalize (w4.alloc (Obj.cells #[.string (zoneB ++ z)] 9)) = w5 at *
   generalize w4.heap.size = sb at *
   clear hK K
   refine rd1 7 ⟨some 22, _, _, _, _, none⟩ rfl (fun K hK => ?_)
   refine step_append_lies _ (by rfl) (.tmp 17) (.tmp 21) 59 (by rfl) w.heap.size 9 i0 _ 1 16 Tryz.underlying59 hi hz0 hz1 hz2 (by rfl) (by decide) v ms.length _ (by rfl) HO5.out ⟨sb, 0, none⟩ 1 1 [.string (zoneB ++ z)] (by rfl) (by rfl) (oneStr HA5.out) (by intro u hu; rw [List.mem_singleton.1 hu]; rfl) (by omega) (by unfold maxLen; omega) (by omega) HB5.out.size w5.heap.size rfl ?_
   intro g cap2 w9 hown hgrow hto hgl
   have HO9 : Hid (w9.ownsRow w.heap.size 9 1 (.slice (some ⟨g, 0, none⟩) (ms.length + 1) cap2) (ms.length + 1) (ms.map Value.string ++ [.string (zoneB ++ z)])) := hown
   have HB9 : Hid (Below w.heap.size w w9) := HB5.out.grown hgrow HB5.out.size (fun i hi => (HO5.out.lt i hi).1)
   have hS9 : TwoZ w.heap.size (.string z) (.slice a ms.length cap) w9 := TwoZ.grownZ hS hgrow HNE.out
   refine hK.out _ _ hS9 (fun hS => ?_)
   clear hK K hown hgrow hto HO5 HB5 HA5 hS9
   simp only [pA,pB,pC,pD]
   refine x5 8 7 ((.slice (some ⟨g, 0, none⟩) (ms.length + 1) cap2)) rfl hS ?_
   simp only [pA,pB,pC,pD]
   refine td ?_
   have HZ9 : Hid (SliceC StrC 1 0 w9 (some ⟨g, 0, none⟩) (zMarks ms z)) := zMarks_sl HO9.out HSZ.out hz hml
   have hlen : ms.length + 1 = (zMarks ms z).length := by simp [zMarks]
   rw [hlen]
   have hzl : (zMarks ms z).length ≤ 1048576 := by rw [← hlen]; omega
   have HR : Hid (meetsK (keysR (zMarks ms z) (zMarks ms z).length) (treeOf t) = asksI t ms z) := by show _ = _; unfold asksI; rw [decide_eq_true HC.out]; rfl
   clear hlen HO9 hS HNE HQ5 hgl
   generalize zMarks ms z = Z at *
   go_upto_region 6 with fail
   have HB10 : Hid (Below w.heap.size w w9.drew) := HB9.out.drew
   have HZ10 : Hid (SliceC StrC 1 0 w9.drew (some ⟨g, 0, none⟩) Z) := HZ9.out.below StrC.holds ((Below.refl _ w9).drew) nL
   refine wp_region_held_drew (S := fun _ => True) (by kernel_rfl) trivial (fun hS => ?_)
   generalize w9.drew = w10 at *
   clear HB9 HZ9
   refine tk 0 ⟨some 23, _, _, _, _, none⟩ (.iface tz x) rfl (Or.inl ⟨by rfl, fun _ _ => rfl⟩) hS ?_
   simp only [pA,pB,pC,pD]
   refine tk 1 ⟨some 24, _, _, _, _, none⟩ (.slice (some ⟨g, 0, none⟩) Z.length cap2) rfl (Or.inl ⟨by rfl, fun _ _ => rfl⟩) hS ?_
   simp only [pA,pB,pC,pD]
   refine tk 3 ⟨some 26, _, _, _, _, none⟩ _ rfl (Or.inl ⟨by rfl, fun _ _ => rfl⟩) hS ?_
   simp only [pA,pB,pC,pD]
   refine tk 4 ⟨some 27, _, _, _, _, none⟩ _ rfl (Or.inl ⟨by rfl, fun wy _ => run_nilCheck_meth rfl rfl rfl (fun w => nil_ok ⟨fun _ => by kernel_rfl, fun _ _ => by kernel_rfl, fun _ _ _ => by kernel_rfl, fun _ _ _ => by kernel_rfl, fun _ _ _ _ => by kernel_rfl, fun _ _ _ _ => by kernel_rfl⟩ HW.out HV w) wy⟩) hS ?_
   simp only [pA,pB,pC,pD]
   refine tk 5 ⟨some 28, _, _, _, _, none⟩ (.iface tz x) rfl (Or.inl ⟨by rfl, fun _ _ => rfl⟩) hS ?_
   simp only [pA,pB,pC,pD]
   refine rd1 2 ⟨some 25, _, _, _, _, none⟩ rfl (fun K hK => ?_)
   go_simp
   refine (marksOf_any Z _ cap2 0 _ HZ10.out hzl).mono ?_
   rintro e w11 ⟨m, n, rfl, hom, hb⟩
   have HM : Hid (w11.ownsMap Tryz.prog 9 (plainElem Tryz.prog 3) m n (cntR (keysR Z Z.length))) := hom
   have HB11 : Hid (Below w.heap.size w w11) := HB10.out.trans (hb.mono HB10.out.size)
   refine hK.out _ _ trivial (fun hS => ?_)
   clear hom hb HZ10 HB10 hK K
   refine rd1 6 ⟨some 29, _, _, _, _, none⟩ rfl (fun K hK => ?_)
   refine step_methA (by rfl) (.tmp 28) _ #[.tmp 25] #[178] (by rfl) _ (by rfl) #[.map (some m)] (map_one _ _) _ (meets_ok _ HW.out _ ⟨fun _ _ => by kernel_rfl, fun _ _ _ => by kernel_rfl, fun _ _ _ _ => by kernel_rfl, fun _ _ _ _ => by kernel_rfl, fun _ _ _ _ _ => by kernel_rfl, fun _ _ _ _ _ => by kernel_rfl⟩ _ HV m n _ _ HM.out (HSH.out HC.out)) ?_
   rintro u w12 ⟨rfl, hb⟩
   rw [HR.out]
   have HB12 : Hid (Below w.heap.size w w12) := HB11.out.trans (hb.mono HB11.out.size)
   refine hK.out _ _ trivial (fun hS => ?_)
   clear hb HB11 HM hK K
   refine tk 7 ⟨some 4, _, _, _, _, none⟩ (.bool (asksI t ms z)) rfl (Or.inl ⟨by rfl, fun _ _ => rfl⟩) hS ?_
   simp only [pA,pB,pC,pD]
   refine td ?_
   go_wp2_with fail
   go_ret
   exact ⟨rfl, HB12.out⟩
  ·go_simp
   have hal : Below w3.heap.size w3 (w3.alloc (Obj.cells #[.string (zoneB ++ z)] 9)) := (Below.refl _ _).alloc nL _
   have HB4 : Hid (Below w.heap.size w (w3.alloc (Obj.cells #[.string (zoneB ++ z)] 9))) := HB3.out.trans (hal.mono HB3.out.size)
   have HA4 : Hid ((w3.alloc (Obj.cells #[.string (zoneB ++ z)] 9)).cell? ⟨w3.heap.size, 0, none⟩ = some (.string (zoneB ++ z))) := by show _ = _; simp
   have HI4 : Hid (SliceC StrC 1 lo (w3.alloc (Obj.cells #[.string (zoneB ++ z)] 9)) a ms) := HI3.out.below StrC.holds hal nL
   refine hK.out _ _ (hS.below hal) (fun hS => ?_)
   clear hal HB3 HI3
   generalize (w3.alloc (Obj.cells #[.string (zoneB ++ z)] 9)) = w4 at *
   generalize w3.heap.size = sb at *
   clear hK K
   refine rd1 2 ⟨some 17, _, _, _, _, none⟩ rfl (fun K hK => ?_)
   go_simp
   refine (sclone_any ms a cap lo _ HI4.out hml).mono ?_
   rintro e w5 ⟨v, rfl, ho, hb⟩
   have HO5 : Hid (w5.ownsRow w.heap.size 9 1 v ms.length (ms.map Value.string)) := World.ownsRow.mono ho HB4.out.size
   have HNB5 : Hid (∀ i, v.ownBlock = some i → w4.heap.size ≤ i) := fun i hi => (ho.lt i hi).1
   have HB5 : Hid (Below w.heap.size w w5) := HB4.out.trans (hb.mono HB4.out.size)
   have HA5 : Hid (w5.cell? ⟨sb, 0, none⟩ = some (.string (zoneB ++ z))) := (hb.cell (p := ⟨sb, 0, none⟩) (block_lt_of_cell HA4.out)).trans HA4.out
   have HQ5 : Hid (v.ownBlock ≠ some sb) := by
    intro e
    have := HNB5.out _ e
    have h2 : sb < w4.heap.size := block_lt_of_cell HA4.out
    omega
   have HNE : Hid (v.ownBlock ≠ some w.heap.size) := by
    intro e
    have := HNB5.out _ e
    have h2 : w.heap.size < w4.heap.size := block_lt_of_cell hS.1
    omega
   refine hK.out _ _ (hS.below hb) (fun hS => ?_)
   clear ho hb HB4 HI4 HNB5 HA4
   clear hK K
   refine rd1 7 ⟨some 22, _, _, _, _, none⟩ rfl (fun K hK => ?_)
   refine step_append_lies _ (by rfl) (.tmp 17) (.tmp 21) 59 (by rfl) w.heap.size 9 i0 _ 1 16 Tryz.underlying59 hi hz0 hz1 hz2 (by rfl) (by decide) v ms.length _ (by rfl) HO5.out ⟨sb, 0, none⟩ 1 1 [.string (zoneB ++ z)] (by rfl) (by rfl) (oneStr HA5.out) (by intro u hu; rw [List.mem_singleton.1 hu]; rfl) (by omega) (by unfold maxLen; omega) (by omega) HB5.out.size w5.heap.size rfl ?_
   intro g cap2 w9 hown hgrow hto hgl
   have HO9 : Hid (w9.ownsRow w.heap.size 9 1 (.slice (some ⟨g, 0, none⟩) (ms.length + 1) cap2) (ms.length + 1) (ms.map Value.string ++ [.string (zoneB ++ z)])) := hown
   have HB9 : Hid (Below w.heap.size w w9) := HB5.out.grown hgrow HB5.out.size (fun i hi => (HO5.out.lt i hi).1)
   have hS9 : TwoZ w.heap.size (.string z) (.slice a ms.length cap) w9 := TwoZ.grownZ hS hgrow HNE.out
   refine hK.out _ _ hS9 (fun hS => ?_)
   clear hK K hown hgrow hto HO5 HB5 HA5 hS9
   simp only [pA,pB,pC,pD]
   refine x5 8 7 ((.slice (some ⟨g, 0, none⟩) (ms.length + 1) cap2)) rfl hS ?_
   simp only [pA,pB,pC,pD]
   refine td ?_
   have HZ9 : Hid (SliceC StrC 1 0 w9 (some ⟨g, 0, none⟩) (zMarks ms z)) := zMarks_sl HO9.out HSZ.out hz hml
   have hlen : ms.length + 1 = (zMarks ms z).length := by simp [zMarks]
   rw [hlen]
   have hzl : (zMarks ms z).length ≤ 1048576 := by rw [← hlen]; omega
   have HR : Hid (meetsK (keysR (zMarks ms z) (zMarks ms z).length) (treeOf t) = asksI t ms z) := by show _ = _; unfold asksI; rw [decide_eq_true HC.out]; rfl
   clear hlen HO9 hS HNE HQ5 hgl
   generalize zMarks ms z = Z at *
   go_upto_region 6 with fail
   have HB10 : Hid (Below w.heap.size w w9.drew) := HB9.out.drew
   have HZ10 : Hid (SliceC StrC 1 0 w9.drew (some ⟨g, 0, none⟩) Z) := HZ9.out.below StrC.holds ((Below.refl _ w9).drew) nL
   refine wp_region_held_drew (S := fun _ => True) (by kernel_rfl) trivial (fun hS => ?_)
   generalize w9.drew = w10 at *
   clear HB9 HZ9
   refine tk 0 ⟨some 23, _, _, _, _, none⟩ (.iface tz x) rfl (Or.inl ⟨by rfl, fun _ _ => rfl⟩) hS ?_
   simp only [pA,pB,pC,pD]
   refine tk 1 ⟨some 24, _, _, _, _, none⟩ (.slice (some ⟨g, 0, none⟩) Z.length cap2) rfl (Or.inl ⟨by rfl, fun _ _ => rfl⟩) hS ?_
   simp only [pA,pB,pC,pD]
   refine tk 3 ⟨some 26, _, _, _, _, none⟩ _ rfl (Or.inl ⟨by rfl, fun _ _ => rfl⟩) hS ?_
   simp only [pA,pB,pC,pD]
   refine tk 4 ⟨some 27, _, _, _, _, none⟩ _ rfl (Or.inl ⟨by rfl, fun wy _ => run_nilCheck_meth rfl rfl rfl (fun w => nil_ok ⟨fun _ => by kernel_rfl, fun _ _ => by kernel_rfl, fun _ _ _ => by kernel_rfl, fun _ _ _ => by kernel_rfl, fun _ _ _ _ => by kernel_rfl, fun _ _ _ _ => by kernel_rfl⟩ HW.out HV w) wy⟩) hS ?_
   simp only [pA,pB,pC,pD]
   refine tk 5 ⟨some 28, _, _, _, _, none⟩ (.iface tz x) rfl (Or.inl ⟨by rfl, fun _ _ => rfl⟩) hS ?_
   simp only [pA,pB,pC,pD]
   refine rd1 2 ⟨some 25, _, _, _, _, none⟩ rfl (fun K hK => ?_)
   go_simp
   refine (marksOf_any Z _ cap2 0 _ HZ10.out hzl).mono ?_
   rintro e w11 ⟨m, n, rfl, hom, hb⟩
   have HM : Hid (w11.ownsMap Tryz.prog 9 (plainElem Tryz.prog 3) m n (cntR (keysR Z Z.length))) := hom
   have HB11 : Hid (Below w.heap.size w w11) := HB10.out.trans (hb.mono HB10.out.size)
   refine hK.out _ _ trivial (fun hS => ?_)
   clear hom hb HZ10 HB10 hK K
   refine rd1 6 ⟨some 29, _, _, _, _, none⟩ rfl (fun K hK => ?_)
   refine step_methA (by rfl) (.tmp 28) _ #[.tmp 25] #[178] (by rfl) _ (by rfl) #[.map (some m)] (map_one _ _) _ (meets_ok _ HW.out _ ⟨fun _ _ => by kernel_rfl, fun _ _ _ => by kernel_rfl, fun _ _ _ _ => by kernel_rfl, fun _ _ _ _ => by kernel_rfl, fun _ _ _ _ _ => by kernel_rfl, fun _ _ _ _ _ => by kernel_rfl⟩ _ HV m n _ _ HM.out (HSH.out HC.out)) ?_
   rintro u w12 ⟨rfl, hb⟩
   rw [HR.out]
   have HB12 : Hid (Below w.heap.size w w12) := HB11.out.trans (hb.mono HB11.out.size)
   refine hK.out _ _ trivial (fun hS => ?_)
   clear hb HB11 HM hK K
   refine tk 7 ⟨some 4, _, _, _, _, none⟩ (.bool (asksI t ms z)) rfl (Or.inl ⟨by rfl, fun _ _ => rfl⟩) hS ?_
   simp only [pA,pB,pC,pD]
   refine td ?_
   go_wp2_with fail
   go_ret
   exact ⟨rfl, HB12.out⟩
 ·have HF : Hid (false = asksI t ms z) := by show _ = _; unfold asksI; rw [decide_eq_false hc]; rfl
  clear hc
  go_wp2_with fail
  go_ret
  exact ⟨ret_bool HF.out, HB2.out⟩
end Go.Proofs.YtebfdgfhadpieaaGreat
