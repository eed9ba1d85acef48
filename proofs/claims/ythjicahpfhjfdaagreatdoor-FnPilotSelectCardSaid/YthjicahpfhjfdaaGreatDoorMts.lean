/-
  Walks: whether a tree is met by counted marks (made by mkmts.py).
-/
import Derived.Test.YthjicahpfhjfdaaGreatDoorJ35
import Derived.Test.YthjicahpfhjfdaaGreatDoorJ4
namespace Go.Proofs.YthjicahpfhjfdaaGreatDoor
open Go.RowKit Go.WideMaps Go.Maps

/-- a key is there -/
def hasK (ks : List ByteArray) (s : ByteArray) : Bool := decide (0 < cntOf s ks)
def eqB : ByteArray := ⟨#[61]⟩
/-- a tree is met by keys -/
def meetsK (ks : List ByteArray) : P.Tr → Bool
  | .nil => true
  | .node b _ p l r =>
    if b = 0 then true
    else if b = 1 then hasK ks p.1
    else if b = 2 then hasK ks (p.1 ++ eqB ++ p.2)
    else if b = 3 then !meetsK ks l
    else if b = 4 then meetsK ks l && meetsK ks r
    else meetsK ks l || meetsK ks r
/-- all names are short -/
def shortT : P.Tr → Prop
  | .nil => True
  | .node _ _ p l r => p.1.size ≤ 1000 ∧ p.2.size ≤ 1000 ∧ shortT l ∧ shortT r

theorem meetsK_nt (ks : List ByteArray) (k : P.Tr) : meetsK ks (P.ntT k) = !meetsK ks k := rfl
theorem meetsK_an (ks : List ByteArray) (a b : P.Tr) : meetsK ks (P.anT a b) = (meetsK ks a && meetsK ks b) := rfl
theorem meetsK_or (ks : List ByteArray) (a b : P.Tr) : meetsK ks (P.orT a b) = (meetsK ks a || meetsK ks b) := rfl

/-- this is the name by which the method 'meets' is called -/
structure MeetsName (name : String) : Prop where
  c0 : ∀ v w, (callMethod (.iface 89 (.agg #[])) name #[v]).run Tryz.prog w = .ok (.enter 106 #[.agg #[], v]) w
  c1 : ∀ n v w, (callMethod (.iface 124 (.agg #[.string n])) name #[v]).run Tryz.prog w = .ok (.enter 112 #[.agg #[.string n], v]) w
  c2 : ∀ n m v w, (callMethod (.iface 126 (.agg #[.string n, .string m])) name #[v]).run Tryz.prog w = .ok (.enter 120 #[.agg #[.string n, .string m], v]) w
  c3 : ∀ x h v w, (callMethod (.iface 147 (.agg #[x, .int .i64 h])) name #[v]).run Tryz.prog w = .ok (.enter 135 #[.agg #[x, .int .i64 h], v]) w
  c4 : ∀ x y h v w, (callMethod (.iface 152 (.agg #[x, y, .int .i64 h])) name #[v]).run Tryz.prog w = .ok (.enter 142 #[.agg #[x, y, .int .i64 h], v]) w
  c5 : ∀ x y h v w, (callMethod (.iface 153 (.agg #[x, y, .int .i64 h])) name #[v]).run Tryz.prog w = .ok (.enter 148 #[.agg #[x, y, .int .i64 h], v]) w

/-- what the program answers of a tree -/
def MtR (ks : List ByteArray) (t : P.Tr) (w : World) (u : Value) (w' : World) : Prop := u = .bool (meetsK ks t) ∧ Below w.heap.size w w'
/-- a tree is asked as it ought -/
def MtOk (t : P.Tr) : Prop := ∀ (name : String), MeetsName name → ∀ (x : Value), Hid (val t = x) → ∀ (m n : Nat) (ks : List ByteArray) (w : World), w.ownsMap Tryz.prog 9 (plainElem Tryz.prog 3) m n (cntR ks) → shortT t → Meth Tryz.prog x name #[.map (some m)] w (MtR ks t w)

theorem nothMeets_any (v : Value) (w : World) : Calls Tryz.prog 106 #[.agg #[], v] w fun e w' => e = .returned (.bool true) ∧ Below w.heap.size w w' := by
  go_enter Tryz.func106, Tryz.ntmps106
  go_wp2
  go_ret
  exact ⟨rfl, by go_grown⟩

theorem hasK_gt (ks : List ByteArray) (s : ByteArray) : decide ((0 : Int) < ((cntOf s ks : Nat) : Int)) = hasK ks s := by
  unfold hasK
  congr 1
  apply propext
  omega

set_option maxHeartbeats 1000000 in
theorem namedMeets_any (s : ByteArray) (m n : Nat) (ks : List ByteArray) (w : World) (ho : w.ownsMap Tryz.prog 9 (plainElem Tryz.prog 3) m n (cntR ks)) (hs : s.size ≤ 1000) :
    Calls Tryz.prog 112 #[.agg #[.string s], .map (some m)] w fun e w' => e = .returned (.bool (hasK ks s)) ∧ Below w.heap.size w w' := by
  have hk : keyOf Tryz.prog 9 (.string s) = some (kOf s) := keyOf_string_mk Tryz.underlying9 (by unfold maxLen; omega)
  have HA : Hid ((cntR ks).atKey (kOf s) (.lit (.int .i64 0)) = .lit (.int .i64 ((cntOf s ks : Nat) : Int))) := at_cntR s ks
  have HH : Hid (decide ((0 : Int) < ((cntOf s ks : Nat) : Int)) = hasK ks s) := hasK_gt ks s
  have HO : Hid (w.ownsMap Tryz.prog 9 (plainElem Tryz.prog 3) m n (cntR ks)) := ho
  clear ho
  generalize ((cntOf s ks : Nat) : Int) = cc at *
  generalize hasK ks s = R at *
  go_enter Tryz.func112, Tryz.ntmps112
  go_wp2_with (at_lookup; refine wpList_lookup_own_int _ rfl _ _ 80 rfl 9 3 .i64 law_str Tryz.underlying80 Tryz.underlying3 (zero_int _) m _ _ rfl (ownsMap_below HO.out (by first | exact Below.refl _ _ | exact (Below.refl _ _).alloc (Nat.le_refl _) _) HO.out.lt) _ _ rfl hk ?_; intro c hcc _; obtain rfl := lit_int_inj (hcc.symm.trans HA.out))
  go_ret
  exact ⟨ret_bool HH.out, by go_grown⟩

set_option maxHeartbeats 1000000 in
theorem valuedMeets_any (s t : ByteArray) (m n : Nat) (ks : List ByteArray) (w : World) (ho : w.ownsMap Tryz.prog 9 (plainElem Tryz.prog 3) m n (cntR ks)) (hs : s.size ≤ 1000) (ht : t.size ≤ 1000) :
    Calls Tryz.prog 120 #[.agg #[.string s, .string t], .map (some m)] w fun e w' => e = .returned (.bool (hasK ks (s ++ eqB ++ t))) ∧ Below w.heap.size w w' := by
  have hk : keyOf Tryz.prog 9 (.string (s ++ eqB ++ t)) = some (kOf (s ++ eqB ++ t)) := keyOf_string_mk Tryz.underlying9 (by have : eqB.size = 1 := rfl; unfold maxLen; rw [ByteArray.size_append, ByteArray.size_append]; omega)
  have HA : Hid ((cntR ks).atKey (kOf (s ++ eqB ++ t)) (.lit (.int .i64 0)) = .lit (.int .i64 ((cntOf (s ++ eqB ++ t) ks : Nat) : Int))) := at_cntR _ ks
  have HH : Hid (decide ((0 : Int) < ((cntOf (s ++ eqB ++ t) ks : Nat) : Int)) = hasK ks (s ++ eqB ++ t)) := hasK_gt ks _
  have HO : Hid (w.ownsMap Tryz.prog 9 (plainElem Tryz.prog 3) m n (cntR ks)) := ho
  clear ho
  generalize ((cntOf (s ++ eqB ++ t) ks : Nat) : Int) = cc at *
  generalize hasK ks (s ++ eqB ++ t) = R at *
  go_enter Tryz.func120, Tryz.ntmps120
  go_wp2_with (at_lookup; refine wpList_lookup_own_int _ rfl _ _ 80 rfl 9 3 .i64 law_str Tryz.underlying80 Tryz.underlying3 (zero_int _) m _ _ rfl (ownsMap_below HO.out (by first | exact Below.refl _ _ | exact (Below.refl _ _).alloc (Nat.le_refl _) _) HO.out.lt) (.string (s ++ eqB ++ t)) _ rfl hk ?_; intro c hcc _; obtain rfl := lit_int_inj (hcc.symm.trans HA.out))
  go_ret
  exact ⟨ret_bool HH.out, by go_grown⟩

set_option maxHeartbeats 2000000 in
set_option maxRecDepth 100000 in
theorem oppMeets_any (k : P.Tr) (hw : P.wf k) (hk : MtOk k) (h : Int) (m n : Nat) (ks : List ByteArray) (w : World) (ho : w.ownsMap Tryz.prog 9 (plainElem Tryz.prog 3) m n (cntR ks)) (hs : shortT k) :
    Calls Tryz.prog 135 #[.agg #[val k, .int .i64 h], .map (some m)] w fun e w' => e = .returned (.bool (!meetsK ks k)) ∧ Below w.heap.size w w' := by
  have HK : Hid (MtOk k) := hk
  have HO : Hid (w.ownsMap Tryz.prog 9 (plainElem Tryz.prog 3) m n (cntR ks)) := ho
  have HS : Hid (shortT k) := hs
  obtain ⟨ty, q, hv⟩ := val_iface hw
  rw [hv]
  have HV : Hid (val k = .iface ty q) := hv
  clear ho hk hv hs
  go_enter Tryz.func135, Tryz.ntmps135
  go_wp2_with (refine wpList_meth rfl (.tmp 6) _ #[.tmp 7] #[80] rfl _ rfl #[.map (some m)] (map_one _ _) _ (HK.out _ ⟨fun _ _ => by kernel_rfl, fun _ _ _ => by kernel_rfl, fun _ _ _ _ => by kernel_rfl, fun _ _ _ _ => by kernel_rfl, fun _ _ _ _ _ => by kernel_rfl, fun _ _ _ _ _ => by kernel_rfl⟩ _ HV m n ks _ (ownsMap_below HO.out ((Below.refl _ _).alloc (Nat.le_refl _) _) HO.out.lt) HS.out) ?_; rintro u w1 ⟨rfl, hb1⟩)
  go_ret
  exact ⟨rfl, ((Below.refl _ _).alloc (Nat.le_refl _) _).trans (hb1.mono (by simp))⟩

set_option maxHeartbeats 2000000 in
set_option maxRecDepth 100000 in
theorem bothMeets_any (s t : P.Tr) (hs : P.wf s) (ht : P.wf t) (hl : MtOk s) (hr : MtOk t) (h : Int) (m n : Nat) (ks : List ByteArray) (w : World) (ho : w.ownsMap Tryz.prog 9 (plainElem Tryz.prog 3) m n (cntR ks)) (hss : shortT s) (hst : shortT t) :
    Calls Tryz.prog 142 #[.agg #[val s, val t, .int .i64 h], .map (some m)] w fun e w' => e = .returned (.bool (meetsK ks s && meetsK ks t)) ∧ Below w.heap.size w w' := by
  have HL : Hid (MtOk s) := hl
  have HR : Hid (MtOk t) := hr
  have HO : Hid (w.ownsMap Tryz.prog 9 (plainElem Tryz.prog 3) m n (cntR ks)) := ho
  have HSS : Hid (shortT s) := hss
  have HST : Hid (shortT t) := hst
  obtain ⟨ty, q, hv⟩ := val_iface hs
  obtain ⟨ty', q', hv'⟩ := val_iface ht
  rw [hv, hv']
  have HV : Hid (val s = .iface ty q) := hv
  have HV' : Hid (val t = .iface ty' q') := hv'
  clear ho hl hr hv hv' hss hst
  have HC : Hid (∃ b, meetsK ks s = b) := ⟨_, rfl⟩
  obtain ⟨bs, hbs⟩ := HC.out
  rw [hbs]
  have HBS : Hid (meetsK ks s = bs) := hbs
  clear HC hbs
  generalize hB2 : meetsK ks t = bt
  have HBT : Hid (meetsK ks t = bt) := hB2
  clear hB2
  go_enter Tryz.func142, Tryz.ntmps142
  go_upto_region 1 with fail
  have hal : Below w.heap.size w (w.alloc (Obj.cells #[.iface ty q, .iface ty' q', .int .i64 h] 152)) := (Below.refl _ _).alloc (Nat.le_refl _) _
  have e0 : (w.alloc (Obj.cells #[.iface ty q, .iface ty' q', .int .i64 h] 152)).cell? ⟨w.heap.size, 0, none⟩ = some (.iface ty q) := by simp
  have e1 : (w.alloc (Obj.cells #[.iface ty q, .iface ty' q', .int .i64 h] 152)).cell? ⟨w.heap.size, 1, none⟩ = some (.iface ty' q') := by simp
  have HO1 : Hid ((w.alloc (Obj.cells #[.iface ty q, .iface ty' q', .int .i64 h] 152)).ownsMap Tryz.prog 9 (plainElem Tryz.prog 3) m n (cntR ks)) := ownsMap_below HO.out hal HO.out.lt
  have HB1 : Hid (Below w.heap.size w (w.alloc (Obj.cells #[.iface ty q, .iface ty' q', .int .i64 h] 152))) := hal
  clear hal HO
  generalize w.alloc (Obj.cells #[.iface ty q, .iface ty' q', .int .i64 h] 152) = w1 at *
  cases bs
  all_goals
    go_wp2_with (first
      | (refine wpList_meth rfl (.tmp 7) _ #[.tmp 8] #[80] rfl _ rfl #[.map (some m)] (map_one _ _) _ (HL.out _ ⟨fun _ _ => by kernel_rfl, fun _ _ _ => by kernel_rfl, fun _ _ _ _ => by kernel_rfl, fun _ _ _ _ => by kernel_rfl, fun _ _ _ _ _ => by kernel_rfl, fun _ _ _ _ _ => by kernel_rfl⟩ _ HV m n ks _ HO1.out HSS.out) ?_; rintro u w2 ⟨hu, hb2⟩; rw [HBS.out] at hu; subst hu; have e12 : w2.cell? ⟨w.heap.size, 1, none⟩ = some (.iface ty' q') := (hb2.cell (p := ⟨w.heap.size, 1, none⟩) (block_lt_of_cell e1)).trans e1; have HO2 : Hid (w2.ownsMap Tryz.prog 9 (plainElem Tryz.prog 3) m n (cntR ks)) := ownsMap_below HO1.out hb2 HO1.out.lt; have HB2 : Hid (Below w.heap.size w w2) := HB1.out.trans (hb2.mono HB1.out.size); clear hb2)
      | (refine wpList_meth rfl (.tmp 13) _ #[.tmp 14] #[80] rfl _ rfl #[.map (some m)] (map_one _ _) _ (HR.out _ ⟨fun _ _ => by kernel_rfl, fun _ _ _ => by kernel_rfl, fun _ _ _ _ => by kernel_rfl, fun _ _ _ _ => by kernel_rfl, fun _ _ _ _ _ => by kernel_rfl, fun _ _ _ _ _ => by kernel_rfl⟩ _ HV' m n ks _ HO2.out HST.out) ?_; rintro u w3 ⟨hu, hb3⟩; rw [HBT.out] at hu; subst hu; have HB3 : Hid (Below w.heap.size w w3) := HB2.out.trans (hb3.mono HB2.out.size); clear hb3))
    go_ret
    first
      | exact ⟨rfl, HB3.out⟩
      | exact ⟨rfl, HB2.out⟩
      | exact ⟨ret_bool (by cases bt <;> rfl), HB3.out⟩

set_option maxHeartbeats 2000000 in
set_option maxRecDepth 100000 in
theorem eitherMeets_any (s t : P.Tr) (hs : P.wf s) (ht : P.wf t) (hl : MtOk s) (hr : MtOk t) (h : Int) (m n : Nat) (ks : List ByteArray) (w : World) (ho : w.ownsMap Tryz.prog 9 (plainElem Tryz.prog 3) m n (cntR ks)) (hss : shortT s) (hst : shortT t) :
    Calls Tryz.prog 148 #[.agg #[val s, val t, .int .i64 h], .map (some m)] w fun e w' => e = .returned (.bool (meetsK ks s || meetsK ks t)) ∧ Below w.heap.size w w' := by
  have HL : Hid (MtOk s) := hl
  have HR : Hid (MtOk t) := hr
  have HO : Hid (w.ownsMap Tryz.prog 9 (plainElem Tryz.prog 3) m n (cntR ks)) := ho
  have HSS : Hid (shortT s) := hss
  have HST : Hid (shortT t) := hst
  obtain ⟨ty, q, hv⟩ := val_iface hs
  obtain ⟨ty', q', hv'⟩ := val_iface ht
  rw [hv, hv']
  have HV : Hid (val s = .iface ty q) := hv
  have HV' : Hid (val t = .iface ty' q') := hv'
  clear ho hl hr hv hv' hss hst
  have HC : Hid (∃ b, meetsK ks s = b) := ⟨_, rfl⟩
  obtain ⟨bs, hbs⟩ := HC.out
  rw [hbs]
  have HBS : Hid (meetsK ks s = bs) := hbs
  clear HC hbs
  generalize hB2 : meetsK ks t = bt
  have HBT : Hid (meetsK ks t = bt) := hB2
  clear hB2
  go_enter Tryz.func148, Tryz.ntmps148
  go_upto_region 1 with fail
  have hal : Below w.heap.size w (w.alloc (Obj.cells #[.iface ty q, .iface ty' q', .int .i64 h] 153)) := (Below.refl _ _).alloc (Nat.le_refl _) _
  have e0 : (w.alloc (Obj.cells #[.iface ty q, .iface ty' q', .int .i64 h] 153)).cell? ⟨w.heap.size, 0, none⟩ = some (.iface ty q) := by simp
  have e1 : (w.alloc (Obj.cells #[.iface ty q, .iface ty' q', .int .i64 h] 153)).cell? ⟨w.heap.size, 1, none⟩ = some (.iface ty' q') := by simp
  have HO1 : Hid ((w.alloc (Obj.cells #[.iface ty q, .iface ty' q', .int .i64 h] 153)).ownsMap Tryz.prog 9 (plainElem Tryz.prog 3) m n (cntR ks)) := ownsMap_below HO.out hal HO.out.lt
  have HB1 : Hid (Below w.heap.size w (w.alloc (Obj.cells #[.iface ty q, .iface ty' q', .int .i64 h] 153))) := hal
  clear hal HO
  generalize w.alloc (Obj.cells #[.iface ty q, .iface ty' q', .int .i64 h] 153) = w1 at *
  cases bs
  all_goals
    go_wp2_with (first
      | (refine wpList_meth rfl (.tmp 7) _ #[.tmp 8] #[80] rfl _ rfl #[.map (some m)] (map_one _ _) _ (HL.out _ ⟨fun _ _ => by kernel_rfl, fun _ _ _ => by kernel_rfl, fun _ _ _ _ => by kernel_rfl, fun _ _ _ _ => by kernel_rfl, fun _ _ _ _ _ => by kernel_rfl, fun _ _ _ _ _ => by kernel_rfl⟩ _ HV m n ks _ HO1.out HSS.out) ?_; rintro u w2 ⟨hu, hb2⟩; rw [HBS.out] at hu; subst hu; have e12 : w2.cell? ⟨w.heap.size, 1, none⟩ = some (.iface ty' q') := (hb2.cell (p := ⟨w.heap.size, 1, none⟩) (block_lt_of_cell e1)).trans e1; have HO2 : Hid (w2.ownsMap Tryz.prog 9 (plainElem Tryz.prog 3) m n (cntR ks)) := ownsMap_below HO1.out hb2 HO1.out.lt; have HB2 : Hid (Below w.heap.size w w2) := HB1.out.trans (hb2.mono HB1.out.size); clear hb2)
      | (refine wpList_meth rfl (.tmp 13) _ #[.tmp 14] #[80] rfl _ rfl #[.map (some m)] (map_one _ _) _ (HR.out _ ⟨fun _ _ => by kernel_rfl, fun _ _ _ => by kernel_rfl, fun _ _ _ _ => by kernel_rfl, fun _ _ _ _ => by kernel_rfl, fun _ _ _ _ _ => by kernel_rfl, fun _ _ _ _ _ => by kernel_rfl⟩ _ HV' m n ks _ HO2.out HST.out) ?_; rintro u w3 ⟨hu, hb3⟩; rw [HBT.out] at hu; subst hu; have HB3 : Hid (Below w.heap.size w w3) := HB2.out.trans (hb3.mono HB2.out.size); clear hb3))
    go_ret
    first
      | exact ⟨rfl, HB3.out⟩
      | exact ⟨rfl, HB2.out⟩
      | exact ⟨ret_bool (by cases bt <;> rfl), HB3.out⟩

theorem meets_ok : ∀ (t : P.Tr), P.wf t → MtOk t := by
  refine P.wf_ind ?_ ?_ ?_ ?_ ?_ ?_
  · intro name H x hx m n ks w ho hs
    rw [← hx.out]
    exact ⟨_, _, H.c0 _ w, (nothMeets_any _ w).mono fun e w' ⟨he, hb⟩ => ⟨_, he, rfl, hb⟩⟩
  · intro s name H x hx m n ks w ho hs
    rw [← hx.out]
    exact ⟨_, _, H.c1 s _ w, (namedMeets_any s m n ks w ho hs.1).mono fun e w' ⟨he, hb⟩ => ⟨_, he, rfl, hb⟩⟩
  · intro s v name H x hx m n ks w ho hs
    rw [← hx.out]
    exact ⟨_, _, H.c2 s v _ w, (valuedMeets_any s v m n ks w ho hs.1 hs.2.1).mono fun e w' ⟨he, hb⟩ => ⟨_, he, rfl, hb⟩⟩
  · intro k hw hk name H x hx m n ks w ho hs
    rw [← hx.out]
    exact ⟨_, _, H.c3 _ _ _ w, (oppMeets_any k hw hk _ m n ks w ho hs.2.2.1).mono fun e w' ⟨he, hb⟩ => ⟨_, he, rfl, hb⟩⟩
  · intro a b ha hb hka hkb name H x hx m n ks w ho hs
    rw [← hx.out]
    exact ⟨_, _, H.c4 _ _ _ _ w, (bothMeets_any a b ha hb hka hkb _ m n ks w ho hs.2.2.1 hs.2.2.2).mono fun e w' ⟨he, hb⟩ => ⟨_, he, rfl, hb⟩⟩
  · intro a b ha hb hka hkb name H x hx m n ks w ho hs
    rw [← hx.out]
    exact ⟨_, _, H.c5 _ _ _ _ w, (eitherMeets_any a b ha hb hka hkb _ m n ks w ho hs.2.2.1 hs.2.2.2).mono fun e w' ⟨he, hb⟩ => ⟨_, he, rfl, hb⟩⟩

end Go.Proofs.YthjicahpfhjfdaaGreatDoor
