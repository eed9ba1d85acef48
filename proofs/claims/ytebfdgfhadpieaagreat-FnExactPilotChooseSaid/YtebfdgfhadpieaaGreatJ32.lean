import Derived.Test.YtebfdgfhadpieaaGreatJ31
namespace Go.Proofs.YtebfdgfhadpieaaGreat
open Go.RowKit
def meetsNs (ns : List P.Nd) (ms : List ByteArray) : Bool := validB ns && (match P.treeI ns with | some t => meetsS ms t | none => false)
set_option maxHeartbeats 2000000 in
set_option maxRecDepth 100000 in
theorem specMeets_any (ns : List P.Nd) (g cn : Nat) (ms : List ByteArray) (am : Option Addr) (cm : Nat) (w : World) (hN : Nodes0 w g ns) (hsm : Small ns) (hM : SliceC StrC 1 0 w am ms) :
  Calls Tryz.prog 86 #[.agg #[.slice (some ⟨g, 0, none⟩) ns.length cn], .slice am ms.length cm] w fun e w' => e = .returned (.bool (meetsNs ns ms)) ∧ Below w.heap.size w w' := by
 have HN : Hid (Nodes0 w g ns) := hN
 have HS : Hid (Small ns) := hsm
 have HM : Hid (SliceC StrC 1 0 w am ms) := hM
 clear hN hsm hM
 cases hv : validB ns with
 | false =>
  have HV : Hid (validB ns = false) := hv
  have HO : Hid (false = meetsNs ns ms) := by show _ = _; rw [meetsNs, hv]; rfl
  clear hv
  go_enter Tryz.func86, Tryz.ntmps86
  go_wp2_with fail
  refine (valid_any ns g cn _ (HN.out.grown (by go_grown)) HS.out).mono ?_
  rintro e w1 ⟨rfl, hb⟩
  rw [HV.out]
  go_wp2_with fail
  go_ret
  exact ⟨ret_bool HO.out, ((Below.refl _ w).alloc nL _).trans (hb.mono (by simp))⟩
 | true =>
  have HV : Hid (validB ns = true) := hv
  have hv0 := hv
  unfold validB at hv
  simp only [Bool.and_eq_true] at hv
  obtain ⟨ht, hi⟩ := hv
  obtain ⟨out, r, t, hko, hol, hrl, hIs, hlo, hhi, hfin, hct⟩ := P.same_tree2 ht
  have hlen := treeOk_len ht
  have h20 : P.tall t ≤ 20 := by
   by_cases h : P.tall t ≤ 20
   ·exact h
   ·rw [hhi (by omega)] at hi
    cases hi
  have HKO : Hid (P.kidsOf ns = some (out, [r])) := hko
  have cc := fun go co => meet_any ns out ns.length cn co go g ms am cm hol t r hIs
  unfold MeetOk at cc
  rw [show ((r : Nat) : Int) = (ns.length : Int) - 1 by omega] at cc
  have HC : Hid (∀ (go co : Nat) (w : World), Nodes0 w g ns → KidsIn w go out → SliceC StrC 1 0 w am ms → Calls Tryz.prog 110 #[.agg #[.slice (some ⟨g, 0, none⟩) ns.length cn], .slice (some ⟨go, 0, none⟩) ns.length co, .int .i64 ((ns.length : Int) - 1), .slice am ms.length cm] w fun e w' => e = .returned (.bool (meetsS ms t)) ∧ Below w.heap.size w w') := cc
  have hl1 : 1 ≤ ns.length := by omega
  have HO : Hid (meetsS ms t = meetsNs ns ms) := by
   show _ = _
   rw [meetsNs, hv0, hlo h20]
   rfl
  clear ht hko cc hIs hlo hhi hct hrl hol hfin h20 hi hv0
  generalize meetsS ms t = X at *
  go_enter Tryz.func86, Tryz.ntmps86
  go_wp2_with fail
  refine (valid_any ns g cn _ (HN.out.grown (by go_grown)) HS.out).mono ?_
  rintro e w1 ⟨rfl, hb⟩
  rw [HV.out]
  have hB1 : Below w.heap.size w w1 := ((Below.refl _ w).alloc nL _).trans (hb.mono (by simp))
  have hc1 : w1.cell? ⟨w.heap.size, 0, none⟩ = some (.slice (some ⟨g, 0, none⟩) ns.length cn) := (hb.cell (p := ⟨w.heap.size, 0, none⟩) (by simp)).trans (by simp)
  have hz1 : w.heap.size < w1.heap.size := by have := hb.size; simp at this; omega
  clear hb
  go_wp2_with fail
  refine (kids_any ns g cn _ (HN.out.grown hB1) hlen).mono ?_
  rintro e w2 ⟨hb2, h2⟩
  rw [HKO.out] at h2
  obtain ⟨go, co, rfl, hkin, _⟩ := h2
  have hc2 : w2.cell? ⟨w.heap.size, 0, none⟩ = some (.slice (some ⟨g, 0, none⟩) ns.length cn) := (hb2.cell (p := ⟨w.heap.size, 0, none⟩) hz1).trans hc1
  have HB : Hid (Below w.heap.size w w2) := hB1.trans (hb2.mono (by omega))
  have HK : Hid (KidsIn w2 go out) := hkin
  clear hb2 hkin hc1 hB1
  go_wp2_with fail
  refine (HC.out _ _ _ (HN.out.grown HB.out) HK.out (HM.out.below StrC.holds HB.out nL)).mono ?_
  rintro e w3 ⟨rfl, hb3⟩
  have HB3 : Hid (Below w.heap.size w w3) := HB.out.trans (hb3.mono HB.out.size)
  clear hb3
  go_wp2_with fail
  go_ret
  exact ⟨ret_bool HO.out, HB3.out⟩
end Go.Proofs.YtebfdgfhadpieaaGreat
namespace Go.Proofs.YtebfdgfhadpieaaGreat
open Go.RowKit Go.WideMaps Go.Maps
def hasK (ks : List ByteArray) (s : ByteArray) : Bool := decide (0 < cntOf s ks)
def eqB : ByteArray := ⟨#[61]⟩
def meetsK (ks : List ByteArray) : P.Tr → Bool
 | .nil => true
 | .node b _ p l r =>
  if b = 0 then true
  else if b = 1 then hasK ks p.1
  else if b = 2 then hasK ks (p.1 ++ eqB ++ p.2)
  else if b = 3 then !meetsK ks l
  else if b = 4 then meetsK ks l && meetsK ks r
  else meetsK ks l || meetsK ks r
def shortT : P.Tr → Prop
 | .nil => True
 | .node _ _ p l r => p.1.size ≤ 1000 ∧ p.2.size ≤ 1000 ∧ shortT l ∧ shortT r
structure MeetsName (name : String) : Prop where
 c0 : ∀ v w, (callMethod (.iface 210 (.agg #[])) name #[v]).run Tryz.prog w = .ok (.enter 182 #[.agg #[], v]) w
 c1 : ∀ n v w, (callMethod (.iface 236 (.agg #[.string n])) name #[v]).run Tryz.prog w = .ok (.enter 199 #[.agg #[.string n], v]) w
 c2 : ∀ n m v w, (callMethod (.iface 238 (.agg #[.string n, .string m])) name #[v]).run Tryz.prog w = .ok (.enter 202 #[.agg #[.string n, .string m], v]) w
 c3 : ∀ x h v w, (callMethod (.iface 232 (.agg #[x, .int .i64 h])) name #[v]).run Tryz.prog w = .ok (.enter 195 #[.agg #[x, .int .i64 h], v]) w
 c4 : ∀ x y h v w, (callMethod (.iface 230 (.agg #[x, y, .int .i64 h])) name #[v]).run Tryz.prog w = .ok (.enter 191 #[.agg #[x, y, .int .i64 h], v]) w
 c5 : ∀ x y h v w, (callMethod (.iface 228 (.agg #[x, y, .int .i64 h])) name #[v]).run Tryz.prog w = .ok (.enter 187 #[.agg #[x, y, .int .i64 h], v]) w
def MtR (ks : List ByteArray) (t : P.Tr) (w : World) (u : Value) (w' : World) : Prop := u = .bool (meetsK ks t) ∧ Below w.heap.size w w'
def MtOk (t : P.Tr) : Prop := ∀ (name : String), MeetsName name → ∀ (x : Value), Hid (val t = x) → ∀ (m n : Nat) (ks : List ByteArray) (w : World), w.ownsMap Tryz.prog 9 (plainElem Tryz.prog 3) m n (cntR ks) → shortT t → Meth Tryz.prog x name #[.map (some m)] w (MtR ks t w)
theorem nothMeets_any (v : Value) (w : World) : Calls Tryz.prog 182 #[.agg #[], v] w fun e w' => e = .returned (.bool true) ∧ Below w.heap.size w w' := by
 go_enter Tryz.func182, Tryz.ntmps182
 go_wp2
 go_ret
 exact ⟨rfl, by go_grown⟩
theorem hasK_gt (ks : List ByteArray) (s : ByteArray) : decide ((0 : Int) < ((cntOf s ks : Nat) : Int)) = hasK ks s := by
 unfold hasK
 congr 1
 apply propext
 omega
set_option maxHeartbeats 1000000 in
theorem namedMeets_any (s : ByteArray) (m n : Nat) (ks : List ByteArray) (w : World) (ho : w.ownsMap Tryz.prog 9 (plainElem Tryz.prog 3) m n (cntR ks)) (hs : s.size ≤ 1000) :
  Calls Tryz.prog 199 #[.agg #[.string s], .map (some m)] w fun e w' => e = .returned (.bool (hasK ks s)) ∧ Below w.heap.size w w' := by
 have hk : keyOf Tryz.prog 9 (.string s) = some (kOf s) := keyOf_string_mk Tryz.underlying9 (by unfold maxLen; omega)
 have HA : Hid ((cntR ks).atKey (kOf s) (.lit (.int .i64 0)) = .lit (.int .i64 ((cntOf s ks : Nat) : Int))) := at_cntR s ks
 have HH : Hid (decide ((0 : Int) < ((cntOf s ks : Nat) : Int)) = hasK ks s) := hasK_gt ks s
 have HO : Hid (w.ownsMap Tryz.prog 9 (plainElem Tryz.prog 3) m n (cntR ks)) := ho
 clear ho
 generalize ((cntOf s ks : Nat) : Int) = cc at *
 generalize hasK ks s = R at *
 go_enter Tryz.func199, Tryz.ntmps199
 go_wp2_with (at_lookup; refine wpList_lookup_own_int _ rfl _ _ 178 rfl 9 3 .i64 law_str Tryz.underlying178 Tryz.underlying3 (zero_int _) m _ _ rfl (ownsMap_below HO.out (by first | exact Below.refl _ _ | exact (Below.refl _ _).alloc nL _) HO.out.lt) _ _ rfl hk ?_; intro c hcc _; obtain rfl := lit_int_inj (hcc.symm.trans HA.out))
 go_ret
 exact ⟨ret_bool HH.out, by go_grown⟩
set_option maxHeartbeats 1000000 in
theorem valuedMeets_any (s t : ByteArray) (m n : Nat) (ks : List ByteArray) (w : World) (ho : w.ownsMap Tryz.prog 9 (plainElem Tryz.prog 3) m n (cntR ks)) (hs : s.size ≤ 1000) (ht : t.size ≤ 1000) :
  Calls Tryz.prog 202 #[.agg #[.string s, .string t], .map (some m)] w fun e w' => e = .returned (.bool (hasK ks (s ++ eqB ++ t))) ∧ Below w.heap.size w w' := by
 have hk : keyOf Tryz.prog 9 (.string (s ++ eqB ++ t)) = some (kOf (s ++ eqB ++ t)) := keyOf_string_mk Tryz.underlying9 (by have : eqB.size = 1 := rfl; unfold maxLen; rw [ByteArray.size_append, ByteArray.size_append]; omega)
 have HA : Hid ((cntR ks).atKey (kOf (s ++ eqB ++ t)) (.lit (.int .i64 0)) = .lit (.int .i64 ((cntOf (s ++ eqB ++ t) ks : Nat) : Int))) := at_cntR _ ks
 have HH : Hid (decide ((0 : Int) < ((cntOf (s ++ eqB ++ t) ks : Nat) : Int)) = hasK ks (s ++ eqB ++ t)) := hasK_gt ks _
 have HO : Hid (w.ownsMap Tryz.prog 9 (plainElem Tryz.prog 3) m n (cntR ks)) := ho
 clear ho
 generalize ((cntOf (s ++ eqB ++ t) ks : Nat) : Int) = cc at *
 generalize hasK ks (s ++ eqB ++ t) = R at *
 go_enter Tryz.func202, Tryz.ntmps202
 go_wp2_with (at_lookup; refine wpList_lookup_own_int _ rfl _ _ 178 rfl 9 3 .i64 law_str Tryz.underlying178 Tryz.underlying3 (zero_int _) m _ _ rfl (ownsMap_below HO.out (by first | exact Below.refl _ _ | exact (Below.refl _ _).alloc nL _) HO.out.lt) (.string (s ++ eqB ++ t)) _ rfl hk ?_; intro c hcc _; obtain rfl := lit_int_inj (hcc.symm.trans HA.out))
 go_ret
 exact ⟨ret_bool HH.out, by go_grown⟩
set_option maxHeartbeats 2000000 in
set_option maxRecDepth 100000 in
theorem oppMeets_any (k : P.Tr) (hw : P.wf k) (hk : MtOk k) (h : Int) (m n : Nat) (ks : List ByteArray) (w : World) (ho : w.ownsMap Tryz.prog 9 (plainElem Tryz.prog 3) m n (cntR ks)) (hs : shortT k) :
  Calls Tryz.prog 195 #[.agg #[val k, .int .i64 h], .map (some m)] w fun e w' => e = .returned (.bool (!meetsK ks k)) ∧ Below w.heap.size w w' := by
 have HK : Hid (MtOk k) := hk
 have HO : Hid (w.ownsMap Tryz.prog 9 (plainElem Tryz.prog 3) m n (cntR ks)) := ho
 have HS : Hid (shortT k) := hs
 obtain ⟨ty, q, hv⟩ := val_iface hw
 rw [hv]
 have HV : Hid (val k = .iface ty q) := hv
 clear ho hk hv hs
 go_enter Tryz.func195, Tryz.ntmps195
 go_wp2_with (refine wpList_meth rfl (.tmp 6) _ #[.tmp 7] #[178] rfl _ rfl #[.map (some m)] (map_one _ _) _ (HK.out _ ⟨fun _ _ => by kernel_rfl, fun _ _ _ => by kernel_rfl, fun _ _ _ _ => by kernel_rfl, fun _ _ _ _ => by kernel_rfl, fun _ _ _ _ _ => by kernel_rfl, fun _ _ _ _ _ => by kernel_rfl⟩ _ HV m n ks _ (ownsMap_below HO.out ((Below.refl _ _).alloc nL _) HO.out.lt) HS.out) ?_; rintro u w1 ⟨rfl, hb1⟩)
 go_ret
 exact ⟨rfl, ((Below.refl _ _).alloc nL _).trans (hb1.mono (by simp))⟩
set_option maxHeartbeats 2000000 in
set_option maxRecDepth 100000 in
theorem bothMeets_any (s t : P.Tr) (hs : P.wf s) (ht : P.wf t) (hl : MtOk s) (hr : MtOk t) (h : Int) (m n : Nat) (ks : List ByteArray) (w : World) (ho : w.ownsMap Tryz.prog 9 (plainElem Tryz.prog 3) m n (cntR ks)) (hss : shortT s) (hst : shortT t) :
  Calls Tryz.prog 191 #[.agg #[val s, val t, .int .i64 h], .map (some m)] w fun e w' => e = .returned (.bool (meetsK ks s && meetsK ks t)) ∧ Below w.heap.size w w' := by
 have HL : Hid (MtOk s) := hl
 have HR : Hid (MtOk t) := hr
 have HO : Hid (w.ownsMap Tryz.prog 9 (plainElem Tryz.prog 3) m n (cntR ks)) := ho
 have HSS : Hid (shortT s) := hss
 have HST : Hid (shortT t) := hst
 obtain ⟨ty, q, hv⟩ := val_iface hs
 obtain ⟨ty', q', hv'⟩ := val_iface ht
 rw [hv, hv']
 have HV : Hid (val s = .iface ty q) := hv
 have HV' : Hid (val t = .iface ty' q') := hv'
 clear ho hl hr hv hv' hss hst
 have HC : Hid (∃ b, meetsK ks s = b) := ⟨_, rfl⟩
 obtain ⟨bs, hbs⟩ := HC.out
 rw [hbs]
 have HBS : Hid (meetsK ks s = bs) := hbs
 clear HC hbs
 generalize hB2 : meetsK ks t = bt
 have HBT : Hid (meetsK ks t = bt) := hB2
 clear hB2
 go_enter Tryz.func191, Tryz.ntmps191
 go_upto_region 1 with fail
 have hal : Below w.heap.size w (w.alloc (Obj.cells #[.iface ty q, .iface ty' q', .int .i64 h] 230)) := (Below.refl _ _).alloc nL _
 have e0 : (w.alloc (Obj.cells #[.iface ty q, .iface ty' q', .int .i64 h] 230)).cell? ⟨w.heap.size, 0, none⟩ = some (.iface ty q) := by simp
 have e1 : (w.alloc (Obj.cells #[.iface ty q, .iface ty' q', .int .i64 h] 230)).cell? ⟨w.heap.size, 1, none⟩ = some (.iface ty' q') := by simp
 have HO1 : Hid ((w.alloc (Obj.cells #[.iface ty q, .iface ty' q', .int .i64 h] 230)).ownsMap Tryz.prog 9 (plainElem Tryz.prog 3) m n (cntR ks)) := ownsMap_below HO.out hal HO.out.lt
 have HB1 : Hid (Below w.heap.size w (w.alloc (Obj.cells #[.iface ty q, .iface ty' q', .int .i64 h] 230))) := hal
 clear hal HO
 generalize w.alloc (Obj.cells #[.iface ty q, .iface ty' q', .int .i64 h] 230) = w1 at *
 cases bs
 all_goals
  go_wp2_with (first
   | (refine wpList_meth rfl (.tmp 7) _ #[.tmp 8] #[178] rfl _ rfl #[.map (some m)] (map_one _ _) _ (HL.out _ ⟨fun _ _ => by kernel_rfl, fun _ _ _ => by kernel_rfl, fun _ _ _ _ => by kernel_rfl, fun _ _ _ _ => by kernel_rfl, fun _ _ _ _ _ => by kernel_rfl, fun _ _ _ _ _ => by kernel_rfl⟩ _ HV m n ks _ HO1.out HSS.out) ?_; rintro u w2 ⟨hu, hb2⟩; rw [HBS.out] at hu; subst hu; have e12 : w2.cell? ⟨w.heap.size, 1, none⟩ = some (.iface ty' q') := (hb2.cell (p := ⟨w.heap.size, 1, none⟩) (block_lt_of_cell e1)).trans e1; have HO2 : Hid (w2.ownsMap Tryz.prog 9 (plainElem Tryz.prog 3) m n (cntR ks)) := ownsMap_below HO1.out hb2 HO1.out.lt; have HB2 : Hid (Below w.heap.size w w2) := HB1.out.trans (hb2.mono HB1.out.size); clear hb2)
   | (refine wpList_meth rfl (.tmp 13) _ #[.tmp 14] #[178] rfl _ rfl #[.map (some m)] (map_one _ _) _ (HR.out _ ⟨fun _ _ => by kernel_rfl, fun _ _ _ => by kernel_rfl, fun _ _ _ _ => by kernel_rfl, fun _ _ _ _ => by kernel_rfl, fun _ _ _ _ _ => by kernel_rfl, fun _ _ _ _ _ => by kernel_rfl⟩ _ HV' m n ks _ HO2.out HST.out) ?_; rintro u w3 ⟨hu, hb3⟩; rw [HBT.out] at hu; subst hu; have HB3 : Hid (Below w.heap.size w w3) := HB2.out.trans (hb3.mono HB2.out.size); clear hb3))
  go_ret
  first
   | exact ⟨rfl, HB3.out⟩
   | exact ⟨rfl, HB2.out⟩
   | exact ⟨ret_bool (by cases bt <;> rfl), HB3.out⟩
set_option maxHeartbeats 2000000 in
set_option maxRecDepth 100000 in
theorem eitherMeets_any (s t : P.Tr) (hs : P.wf s) (ht : P.wf t) (hl : MtOk s) (hr : MtOk t) (h : Int) (m n : Nat) (ks : List ByteArray) (w : World) (ho : w.ownsMap Tryz.prog 9 (plainElem Tryz.prog 3) m n (cntR ks)) (hss : shortT s) (hst : shortT t) :
  Calls Tryz.prog 187 #[.agg #[val s, val t, .int .i64 h], .map (some m)] w fun e w' => e = .returned (.bool (meetsK ks s || meetsK ks t)) ∧ Below w.heap.size w w' := by
 have HL : Hid (MtOk s) := hl
 have HR : Hid (MtOk t) := hr
 have HO : Hid (w.ownsMap Tryz.prog 9 (plainElem Tryz.prog 3) m n (cntR ks)) := ho
 have HSS : Hid (shortT s) := hss
 have HST : Hid (shortT t) := hst
 obtain ⟨ty, q, hv⟩ := val_iface hs
 obtain ⟨ty', q', hv'⟩ := val_iface ht
 rw [hv, hv']
 have HV : Hid (val s = .iface ty q) := hv
 have HV' : Hid (val t = .iface ty' q') := hv'
 clear ho hl hr hv hv' hss hst
 have HC : Hid (∃ b, meetsK ks s = b) := ⟨_, rfl⟩
 obtain ⟨bs, hbs⟩ := HC.out
 rw [hbs]
 have HBS : Hid (meetsK ks s = bs) := hbs
 clear HC hbs
 generalize hB2 : meetsK ks t = bt
 have HBT : Hid (meetsK ks t = bt) := hB2
 clear hB2
 go_enter Tryz.func187, Tryz.ntmps187
 go_upto_region 1 with fail
 have hal : Below w.heap.size w (w.alloc (Obj.cells #[.iface ty q, .iface ty' q', .int .i64 h] 228)) := (Below.refl _ _).alloc nL _
 have e0 : (w.alloc (Obj.cells #[.iface ty q, .iface ty' q', .int .i64 h] 228)).cell? ⟨w.heap.size, 0, none⟩ = some (.iface ty q) := by simp
 have e1 : (w.alloc (Obj.cells #[.iface ty q, .iface ty' q', .int .i64 h] 228)).cell? ⟨w.heap.size, 1, none⟩ = some (.iface ty' q') := by simp
 have HO1 : Hid ((w.alloc (Obj.cells #[.iface ty q, .iface ty' q', .int .i64 h] 228)).ownsMap Tryz.prog 9 (plainElem Tryz.prog 3) m n (cntR ks)) := ownsMap_below HO.out hal HO.out.lt
 have HB1 : Hid (Below w.heap.size w (w.alloc (Obj.cells #[.iface ty q, .iface ty' q', .int .i64 h] 228))) := hal
 clear hal HO
 generalize w.alloc (Obj.cells #[.iface ty q, .iface ty' q', .int .i64 h] 228) = w1 at *
 cases bs
 all_goals
  go_wp2_with (first
   | (refine wpList_meth rfl (.tmp 7) _ #[.tmp 8] #[178] rfl _ rfl #[.map (some m)] (map_one _ _) _ (HL.out _ ⟨fun _ _ => by kernel_rfl, fun _ _ _ => by kernel_rfl, fun _ _ _ _ => by kernel_rfl, fun _ _ _ _ => by kernel_rfl, fun _ _ _ _ _ => by kernel_rfl, fun _ _ _ _ _ => by kernel_rfl⟩ _ HV m n ks _ HO1.out HSS.out) ?_; rintro u w2 ⟨hu, hb2⟩; rw [HBS.out] at hu; subst hu; have e12 : w2.cell? ⟨w.heap.size, 1, none⟩ = some (.iface ty' q') := (hb2.cell (p := ⟨w.heap.size, 1, none⟩) (block_lt_of_cell e1)).trans e1; have HO2 : Hid (w2.ownsMap Tryz.prog 9 (plainElem Tryz.prog 3) m n (cntR ks)) := ownsMap_below HO1.out hb2 HO1.out.lt; have HB2 : Hid (Below w.heap.size w w2) := HB1.out.trans (hb2.mono HB1.out.size); clear hb2)
   | (refine wpList_meth rfl (.tmp 13) _ #[.tmp 14] #[178] rfl _ rfl #[.map (some m)] (map_one _ _) _ (HR.out _ ⟨fun _ _ => by kernel_rfl, fun _ _ _ => by kernel_rfl, fun _ _ _ _ => by kernel_rfl, fun _ _ _ _ => by kernel_rfl, fun _ _ _ _ _ => by kernel_rfl, fun _ _ _ _ _ => by kernel_rfl⟩ _ HV' m n ks _ HO2.out HST.out) ?_; rintro u w3 ⟨hu, hb3⟩; rw [HBT.out] at hu; subst hu; have HB3 : Hid (Below w.heap.size w w3) := HB2.out.trans (hb3.mono HB2.out.size); clear hb3))
  go_ret
  first
   | exact ⟨rfl, HB3.out⟩
   | exact ⟨rfl, HB2.out⟩
   | exact ⟨ret_bool (by cases bt <;> rfl), HB3.out⟩
theorem meets_ok : ∀ (t : P.Tr), P.wf t → MtOk t := by
 refine P.wf_ind ?_ ?_ ?_ ?_ ?_ ?_
 ·intro name H x hx m n ks w ho hs
  rw [← hx.out]
  exact ⟨_, _, H.c0 _ w, (nothMeets_any _ w).mono fun e w' ⟨he, hb⟩ => ⟨_, he, rfl, hb⟩⟩
 ·intro s name H x hx m n ks w ho hs
  rw [← hx.out]
  exact ⟨_, _, H.c1 s _ w, (namedMeets_any s m n ks w ho hs.1).mono fun e w' ⟨he, hb⟩ => ⟨_, he, rfl, hb⟩⟩
 ·intro s v name H x hx m n ks w ho hs
  rw [← hx.out]
  exact ⟨_, _, H.c2 s v _ w, (valuedMeets_any s v m n ks w ho hs.1 hs.2.1).mono fun e w' ⟨he, hb⟩ => ⟨_, he, rfl, hb⟩⟩
 ·intro k hw hk name H x hx m n ks w ho hs
  rw [← hx.out]
  exact ⟨_, _, H.c3 _ _ _ w, (oppMeets_any k hw hk _ m n ks w ho hs.2.2.1).mono fun e w' ⟨he, hb⟩ => ⟨_, he, rfl, hb⟩⟩
 ·intro a b ha hb hka hkb name H x hx m n ks w ho hs
  rw [← hx.out]
  exact ⟨_, _, H.c4 _ _ _ _ w, (bothMeets_any a b ha hb hka hkb _ m n ks w ho hs.2.2.1 hs.2.2.2).mono fun e w' ⟨he, hb⟩ => ⟨_, he, rfl, hb⟩⟩
 ·intro a b ha hb hka hkb name H x hx m n ks w ho hs
  rw [← hx.out]
  exact ⟨_, _, H.c5 _ _ _ _ w, (eitherMeets_any a b ha hb hka hkb _ m n ks w ho hs.2.2.1 hs.2.2.2).mono fun e w' ⟨he, hb⟩ => ⟨_, he, rfl, hb⟩⟩
end Go.Proofs.YtebfdgfhadpieaaGreat
