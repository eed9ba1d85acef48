/-
  A copy found; the rules of the gate. Made by mksi7.py.
-/
import Derived.Test.YtfbmljdlkgiliaaSi3
import Derived.Test.YtfbmljdlkgiliaaSci
import Derived.Test.YtfbmljdlkgiliaaSt8
namespace Go.Proofs.Ytfbmljdlkgiliaa
open Go.RowKit Go.WideMaps Go.Maps

theorem ah_irr (u : Scp) : ahB u u = false := by
  unfold ahB
  rw [bl_irr]
  simp

theorem ah_tr {u v z : Scp} (h1 : ahB u v = true) (h2 : ahB v z = true) : ahB u z = true := by
  unfold ahB at *
  simp only [Bool.or_eq_true, Bool.and_eq_true, beq_iff_eq, decide_eq_true_eq] at *
  rcases h1 with a | ⟨a, b⟩ <;> rcases h2 with c | ⟨c, d⟩
  · exact .inl (bl_tr _ _ _ a c)
  · exact .inl (c ▸ a)
  · exact .inl (a ▸ c)
  · exact .inr ⟨a.trans c, by omega⟩

/-- copies that ascend are apart -/
theorem asc_uniqC {xs : List Scp} (h : ∀ (j : Nat) u v, xs[j]? = some u → xs[j + 1]? = some v → ahB u v = true) : ∀ (j k : Nat) u v, xs[j]? = some u → xs[k]? = some v → (u.service, u.number) = (v.service, v.number) → j = k := by
  have hl : ∀ (d i : Nat) u v, xs[i]? = some u → xs[i + d + 1]? = some v → ahB u v = true := by
    intro d
    induction d with
    | zero => exact fun i u v h1 h2 => h i u v h1 h2
    | succ d ih =>
      intro i u v h1 h2
      have hd : i + d + 1 < xs.length := by have := lt_of_some h2; omega
      have h3 : xs[i + d + 1]? = some xs[i + d + 1] := List.getElem?_eq_getElem hd
      exact ah_tr (ih i u _ h1 h3) (h _ _ _ h3 h2)
  have key : ∀ u v : Scp, (u.service, u.number) = (v.service, v.number) → ahB u v = true → False := by
    intro u v he ha
    obtain ⟨e1, e2⟩ := Prod.mk.inj he
    unfold ahB at ha
    rw [e1, bl_irr, e2] at ha
    simp at ha
  intro j k u v hj hk he
  rcases Nat.lt_trichotomy j k with c | c | c
  · exact (key u v he (hl (k - j - 1) j u v hj (by rw [show j + (k - j - 1) + 1 = k by omega]; exact hk))).elim
  · exact c
  · exact (key v u he.symm (hl (j - k - 1) k v u hk (by rw [show k + (j - k - 1) + 1 = j by omega]; exact hj))).elim

theorem last_cpy {x : Sbk} {s : ByteArray} {q : Int} (hu : ∀ (j k : Nat) u v, x.copies[j]? = some u → x.copies[k]? = some v → (u.service, u.number) = (v.service, v.number) → j = k) :
    (lastOf (ksC x) (s, q) x.copies.length = none ∧ x.copies.find? (isC s q) = none) ∨ ∃ (k : Nat) (v : Scp), lastOf (ksC x) (s, q) x.copies.length = some k ∧ x.copies[k]? = some v ∧ v.service = s ∧ x.copies.find? (isC s q) = some v := by
  have e : (fun b : Scp => decide ((b.service, b.number) = (s, q))) = isC s q := by funext b; simp [isC]
  have h := last_gen (fun v : Scp => (v.service, v.number)) (xs := x.copies) (s := (s, q)) hu
  rw [e] at h
  rcases h with h | ⟨k, v, h1, h2, h3, h4⟩
  · exact .inl h
  · exact .inr ⟨k, v, h1, h2, congrArg Prod.fst h3, h4⟩

def CpyRes (x : Sbk) (s : ByteArray) (q : Int) (w : World) (e : Ending) (w' : World) : Prop := ((∃ v, x.copies.find? (isC s q) = some v ∧ e = .returned (.tuple #[.agg #[.string v.service, .int .i64 v.number, .int .i64 v.version, .int .i64 v.image, .int .i64 v.state, .bool v.ending, .string v.berth], .bool true])) ∨ (x.copies.find? (isC s q) = none ∧ e = .returned (.tuple #[.agg #[.string ⟨#[]⟩, .int .i64 0, .int .i64 0, .int .i64 0, .int .i64 0, .bool false, .string ⟨#[]⟩], .bool false]))) ∧ Below w.heap.size w w'

set_option maxHeartbeats 4000000 in
set_option maxRecDepth 100000 in
theorem fcopy_any (x : Sbk) (a1 : Option Addr) (c1 : Nat) (a2 : Option Addr) (c2 : Nat) (a3 : Option Addr) (c3 : Nat) (p m n lo : Nat) (s : ByteArray) (q : Int) (w : World) (hF : FndS x a1 c1 a2 c2 a3 c3 p m n lo w) (hs : s.size ≤ maxLen) (hq : Wf q) (hw : NumOk x) (hu : ∀ (j k : Nat) u v, x.copies[j]? = some u → x.copies[k]? = some v → (u.service, u.number) = (v.service, v.number) → j = k) :
    Calls Try.prog 18 #[.pointer (some ⟨p, 0, none⟩), .string s, .int .i64 q] w fun e w' => CpyRes x s q w e w' := by
  have HZ : Hid (Blk w.heap.size #[.string ⟨#[]⟩, .int .i64 0, .int .i64 0, .int .i64 0, .int .i64 0, .bool false, .string ⟨#[]⟩] 48 (w.alloc (Obj.cells #[.string ⟨#[]⟩, .int .i64 0, .int .i64 0, .int .i64 0, .int .i64 0, .bool false, .string ⟨#[]⟩] 48))) := Blk.alloc _ _ _
  have hB1 : Below w.heap.size w (w.alloc (Obj.cells #[.string ⟨#[]⟩, .int .i64 0, .int .i64 0, .int .i64 0, .int .i64 0, .bool false, .string ⟨#[]⟩] 48)) := by go_grown
  have HF1 := Hid.intro (hF.below hB1)
  have HU := Hid.intro (last_cpy (s := s) (q := q) hu)
  have HL : Hid (∀ wy, FndS x a1 c1 a2 c2 a3 c3 p m n lo wy → _) := fun wy hy => look_cpy hy.own hs hq hw
  clear hF
  go_enter Try.func18, Try.ntmps18
  go_upto_region 1 with fail
  generalize w.alloc (Obj.cells #[.string ⟨#[]⟩, .int .i64 0, .int .i64 0, .int .i64 0, .int .i64 0, .bool false, .string ⟨#[]⟩] 48) = w1 at *
  refine wp_region_held_drew (S := fun wy => FndS x a1 c1 a2 c2 a3 c3 p m n lo wy ∧ Blk w.heap.size #[.string ⟨#[]⟩, .int .i64 0, .int .i64 0, .int .i64 0, .int .i64 0, .bool false, .string ⟨#[]⟩] 48 wy) (by kernel_rfl) ⟨HF1.out.below (Below.refl _ _).drew, HZ.out.drew⟩ (fun hS => ?_)
  have hB2 : Below w.heap.size w w1.drew := hB1.drew
  clear HF1 HZ hB1
  generalize w1.drew = w2 at *
  rcases HU.out with ⟨e1, e2⟩ | ⟨k, v, e1, e2, e3, e4⟩
  · have HLK := HL.out
    rw [e1] at HLK
    simp only [Option.getD_none, Option.isSome_none] at HLK
    have HLK := Hid.intro HLK
    have HE2 := Hid.intro e2
    clear e1 e2 HU HL
    refine wpAnyH_take (i := 0) (oi := { dst := some 11, op := _, type := _, pos := _, after := _, guard := none }) (v := .pointer (some ⟨p, 0, none⟩)) rfl (by kernel_rfl) (by kernel_rfl) (by kernel_rfl) (fun _ _ _ h => h) (Or.inl ⟨by rfl, ?_⟩) hS ?_
    · intro wy hy
      clear hy
      go_simp
    simp only [Act.put, List.setIfInBounds_toArray, List.set_cons_zero, List.set_cons_succ]
    refine wpAnyH_take (i := 1) (oi := { dst := some 12, op := _, type := _, pos := _, after := _, guard := none }) (v := .pointer (some ⟨p, 0, none⟩)) rfl (by kernel_rfl) (by kernel_rfl) (by kernel_rfl) (fun _ _ _ h => h) (Or.inl ⟨by rfl, ?_⟩) hS ?_
    · intro wy hy
      clear hy
      go_simp
    simp only [Act.put, List.setIfInBounds_toArray, List.set_cons_zero, List.set_cons_succ]
    refine wpAnyH_take (i := 2) (oi := { dst := some 13, op := _, type := _, pos := _, after := _, guard := none }) (v := .pointer (some ⟨p, 4, none⟩)) rfl (by kernel_rfl) (by kernel_rfl) (by kernel_rfl) (fun _ _ _ h => h) (Or.inl ⟨by rfl, ?_⟩) hS ?_
    · intro wy hy
      clear hy
      go_simp
    simp only [Act.put, List.setIfInBounds_toArray, List.set_cons_zero, List.set_cons_succ]
    refine wpAnyH_take (i := 3) (oi := { dst := some 14, op := _, type := _, pos := _, after := _, guard := none }) (v := .map (some m)) rfl (by kernel_rfl) (by kernel_rfl) (by kernel_rfl) (fun _ _ _ h => h) (Or.inl ⟨by rfl, ?_⟩) hS ?_
    · intro wy hy
      have h0 : wy.cell? ⟨p, 4, none⟩ = some (.map (some m)) := hy.1.blk.cell rfl
      clear hy
      go_simp
    simp only [Act.put, List.setIfInBounds_toArray, List.set_cons_zero, List.set_cons_succ]
    refine wpAnyH_take (i := 4) (oi := { dst := some 15, op := _, type := _, pos := _, after := _, guard := none }) (v := .string s) rfl (by kernel_rfl) (by kernel_rfl) (by kernel_rfl) (fun _ _ _ h => h) (Or.inl ⟨by rfl, ?_⟩) hS ?_
    · intro wy hy
      clear hy
      go_simp
    simp only [Act.put, List.setIfInBounds_toArray, List.set_cons_zero, List.set_cons_succ]
    refine wpAnyH_take (i := 5) (oi := { dst := some 16, op := _, type := _, pos := _, after := _, guard := none }) (v := .int .i64 q) rfl (by kernel_rfl) (by kernel_rfl) (by kernel_rfl) (fun _ _ _ h => h) (Or.inl ⟨by rfl, ?_⟩) hS ?_
    · intro wy hy
      clear hy
      go_simp
    simp only [Act.put, List.setIfInBounds_toArray, List.set_cons_zero, List.set_cons_succ]
    refine wpAnyH_ready (rs := [6]) (by kernel_rfl) (by simp) (AllReadyH.cons (o := { dst := some 17, op := _, type := _, pos := _, after := _, guard := none }) rfl (fun K hK => ?_) AllReadyH.nil)
    go_simp
    refine (cpyKey_any s q _).mono ?_
    rintro e w3 ⟨rfl, hbk⟩
    have HF3 := Hid.intro (hS.1.below hbk)
    have HZ3 := Hid.intro (hS.2.below hbk hS.2.lt)
    have hB3 : Below w.heap.size w w3 := hB2.trans (hbk.mono hB2.size)
    clear hB2
    refine hK.out _ _ ⟨HF3.out, HZ3.out⟩ (fun hS => ?_)
    clear hK K
    refine wpAnyH_take (i := 7) (oi := { dst := some 18, op := _, type := _, pos := _, after := _, guard := none }) (v := .tuple #[.int .i64 0, .bool false]) rfl (by kernel_rfl) (by kernel_rfl) (by kernel_rfl) (fun _ _ _ h => h) (Or.inl ⟨by rfl, ?_⟩) hS ?_
    · intro wy hy
      have h0 := HLK.out wy hy.1
      clear hy
      go_simp
    simp only [Act.put, List.setIfInBounds_toArray, List.set_cons_zero, List.set_cons_succ]
    refine wpAnyH_take (i := 8) (oi := { dst := some 10, op := _, type := _, pos := _, after := _, guard := none }) (v := .tuple #[.int .i64 0, .bool false]) rfl (by kernel_rfl) (by kernel_rfl) (by kernel_rfl) (fun _ _ _ h => h) (Or.inl ⟨by rfl, ?_⟩) hS ?_
    · intro wy hy
      clear hy
      go_simp
    simp only [Act.put, List.setIfInBounds_toArray, List.set_cons_zero, List.set_cons_succ]
    refine wpAnyH_take (i := 9) (oi := { dst := some 19, op := _, type := _, pos := _, after := _, guard := none }) (v := .int .i64 0) rfl (by kernel_rfl) (by kernel_rfl) (by kernel_rfl) (fun _ _ _ h => h) (Or.inl ⟨by rfl, ?_⟩) hS ?_
    · intro wy hy
      clear hy
      go_simp
    simp only [Act.put, List.setIfInBounds_toArray, List.set_cons_zero, List.set_cons_succ]
    refine wpAnyH_take (i := 10) (oi := { dst := some 20, op := _, type := _, pos := _, after := _, guard := none }) (v := .bool false) rfl (by kernel_rfl) (by kernel_rfl) (by kernel_rfl) (fun _ _ _ h => h) (Or.inl ⟨by rfl, ?_⟩) hS ?_
    · intro wy hy
      clear hy
      go_simp
    simp only [Act.put, List.setIfInBounds_toArray, List.set_cons_zero, List.set_cons_succ]
    refine wpAnyH_take (i := 11) (oi := { dst := some 8, op := _, type := _, pos := _, after := _, guard := none }) (v := .int .i64 0) rfl (by kernel_rfl) (by kernel_rfl) (by kernel_rfl) (fun _ _ _ h => h) (Or.inl ⟨by rfl, ?_⟩) hS ?_
    · intro wy hy
      clear hy
      go_simp
    simp only [Act.put, List.setIfInBounds_toArray, List.set_cons_zero, List.set_cons_succ]
    refine wpAnyH_take (i := 12) (oi := { dst := some 9, op := _, type := _, pos := _, after := _, guard := none }) (v := .bool false) rfl (by kernel_rfl) (by kernel_rfl) (by kernel_rfl) (fun _ _ _ h => h) (Or.inl ⟨by rfl, ?_⟩) hS ?_
    · intro wy hy
      clear hy
      go_simp
    simp only [Act.put, List.setIfInBounds_toArray, List.set_cons_zero, List.set_cons_succ]
    refine wpAnyH_done (by kernel_rfl) ?_ _
    clear hS
    clear HLK hbk
    have HTS := Hid.intro HZ3.out.there
    clear HZ3
    obtain ⟨wf, HE⟩ : ∃ wf, Hid (wf = w3.setCells w.heap.size 0 [.string ⟨#[]⟩, .int .i64 0, .int .i64 0, .int .i64 0, .int .i64 0, .bool false, .string ⟨#[]⟩]) := ⟨_, rfl⟩
    have HRf : Hid (wf.rangeAt w.heap.size 0 [.string ⟨#[]⟩, .int .i64 0, .int .i64 0, .int .i64 0, .int .i64 0, .bool false, .string ⟨#[]⟩]) := by
      show World.rangeAt _ _ _ _
      rw [HE.out]
      exact World.rangeAt_setCells_same _ _ _ _ HTS.out
    have HBf : Hid (Below w.heap.size w wf) := by
      show Below _ _ _
      rw [HE.out]
      exact below_setCells (Nat.le_refl _) _ _ _ hB3
    clear hB3
    go_wp2_with (refine wpList_store_to rfl 48 _ _ rfl w.heap.size 0 #[.string ⟨#[]⟩, .int .i64 0, .int .i64 0, .int .i64 0, .int .i64 0, .bool false, .string ⟨#[]⟩] (by first | rfl | (simp [go_sem]; done)) rfl HTS.out isz_Scp (by simp [Value.oneCell']) wf HE.out ?_)
    exact bodyPost_ret (results_cell_tmp rfl _ _ w.heap.size [.string ⟨#[]⟩, .int .i64 0, .int .i64 0, .int .i64 0, .int .i64 0, .bool false, .string ⟨#[]⟩] _ rfl HRf.out Try.underlying48 rfl isz_Scp) rfl ⟨.inr ⟨HE2.out, rfl⟩, HBf.out⟩
  · have HLK := HL.out
    rw [e1] at HLK
    simp only [Option.getD_some, Option.isSome_some] at HLK
    have HLK := Hid.intro HLK
    have hkl : k < x.copies.length := lt_of_some e2
    have HE2 := Hid.intro e2
    have HE4 := Hid.intro e4
    clear e1 e2 e3 e4 HU HL
    refine wpAnyH_take (i := 0) (oi := { dst := some 11, op := _, type := _, pos := _, after := _, guard := none }) (v := .pointer (some ⟨p, 0, none⟩)) rfl (by kernel_rfl) (by kernel_rfl) (by kernel_rfl) (fun _ _ _ h => h) (Or.inl ⟨by rfl, ?_⟩) hS ?_
    · intro wy hy
      clear hy
      go_simp
    simp only [Act.put, List.setIfInBounds_toArray, List.set_cons_zero, List.set_cons_succ]
    refine wpAnyH_take (i := 1) (oi := { dst := some 12, op := _, type := _, pos := _, after := _, guard := none }) (v := .pointer (some ⟨p, 0, none⟩)) rfl (by kernel_rfl) (by kernel_rfl) (by kernel_rfl) (fun _ _ _ h => h) (Or.inl ⟨by rfl, ?_⟩) hS ?_
    · intro wy hy
      clear hy
      go_simp
    simp only [Act.put, List.setIfInBounds_toArray, List.set_cons_zero, List.set_cons_succ]
    refine wpAnyH_take (i := 2) (oi := { dst := some 13, op := _, type := _, pos := _, after := _, guard := none }) (v := .pointer (some ⟨p, 4, none⟩)) rfl (by kernel_rfl) (by kernel_rfl) (by kernel_rfl) (fun _ _ _ h => h) (Or.inl ⟨by rfl, ?_⟩) hS ?_
    · intro wy hy
      clear hy
      go_simp
    simp only [Act.put, List.setIfInBounds_toArray, List.set_cons_zero, List.set_cons_succ]
    refine wpAnyH_take (i := 3) (oi := { dst := some 14, op := _, type := _, pos := _, after := _, guard := none }) (v := .map (some m)) rfl (by kernel_rfl) (by kernel_rfl) (by kernel_rfl) (fun _ _ _ h => h) (Or.inl ⟨by rfl, ?_⟩) hS ?_
    · intro wy hy
      have h0 : wy.cell? ⟨p, 4, none⟩ = some (.map (some m)) := hy.1.blk.cell rfl
      clear hy
      go_simp
    simp only [Act.put, List.setIfInBounds_toArray, List.set_cons_zero, List.set_cons_succ]
    refine wpAnyH_take (i := 4) (oi := { dst := some 15, op := _, type := _, pos := _, after := _, guard := none }) (v := .string s) rfl (by kernel_rfl) (by kernel_rfl) (by kernel_rfl) (fun _ _ _ h => h) (Or.inl ⟨by rfl, ?_⟩) hS ?_
    · intro wy hy
      clear hy
      go_simp
    simp only [Act.put, List.setIfInBounds_toArray, List.set_cons_zero, List.set_cons_succ]
    refine wpAnyH_take (i := 5) (oi := { dst := some 16, op := _, type := _, pos := _, after := _, guard := none }) (v := .int .i64 q) rfl (by kernel_rfl) (by kernel_rfl) (by kernel_rfl) (fun _ _ _ h => h) (Or.inl ⟨by rfl, ?_⟩) hS ?_
    · intro wy hy
      clear hy
      go_simp
    simp only [Act.put, List.setIfInBounds_toArray, List.set_cons_zero, List.set_cons_succ]
    refine wpAnyH_ready (rs := [6]) (by kernel_rfl) (by simp) (AllReadyH.cons (o := { dst := some 17, op := _, type := _, pos := _, after := _, guard := none }) rfl (fun K hK => ?_) AllReadyH.nil)
    go_simp
    refine (cpyKey_any s q _).mono ?_
    rintro e w3 ⟨rfl, hbk⟩
    have HF3 := Hid.intro (hS.1.below hbk)
    have HZ3 := Hid.intro (hS.2.below hbk hS.2.lt)
    have hB3 : Below w.heap.size w w3 := hB2.trans (hbk.mono hB2.size)
    clear hB2
    refine hK.out _ _ ⟨HF3.out, HZ3.out⟩ (fun hS => ?_)
    clear hK K
    refine wpAnyH_take (i := 7) (oi := { dst := some 18, op := _, type := _, pos := _, after := _, guard := none }) (v := .tuple #[.int .i64 k, .bool true]) rfl (by kernel_rfl) (by kernel_rfl) (by kernel_rfl) (fun _ _ _ h => h) (Or.inl ⟨by rfl, ?_⟩) hS ?_
    · intro wy hy
      have h0 := HLK.out wy hy.1
      clear hy
      go_simp
    simp only [Act.put, List.setIfInBounds_toArray, List.set_cons_zero, List.set_cons_succ]
    refine wpAnyH_take (i := 8) (oi := { dst := some 10, op := _, type := _, pos := _, after := _, guard := none }) (v := .tuple #[.int .i64 k, .bool true]) rfl (by kernel_rfl) (by kernel_rfl) (by kernel_rfl) (fun _ _ _ h => h) (Or.inl ⟨by rfl, ?_⟩) hS ?_
    · intro wy hy
      clear hy
      go_simp
    simp only [Act.put, List.setIfInBounds_toArray, List.set_cons_zero, List.set_cons_succ]
    refine wpAnyH_take (i := 9) (oi := { dst := some 19, op := _, type := _, pos := _, after := _, guard := none }) (v := .int .i64 k) rfl (by kernel_rfl) (by kernel_rfl) (by kernel_rfl) (fun _ _ _ h => h) (Or.inl ⟨by rfl, ?_⟩) hS ?_
    · intro wy hy
      clear hy
      go_simp
    simp only [Act.put, List.setIfInBounds_toArray, List.set_cons_zero, List.set_cons_succ]
    refine wpAnyH_take (i := 10) (oi := { dst := some 20, op := _, type := _, pos := _, after := _, guard := none }) (v := .bool true) rfl (by kernel_rfl) (by kernel_rfl) (by kernel_rfl) (fun _ _ _ h => h) (Or.inl ⟨by rfl, ?_⟩) hS ?_
    · intro wy hy
      clear hy
      go_simp
    simp only [Act.put, List.setIfInBounds_toArray, List.set_cons_zero, List.set_cons_succ]
    refine wpAnyH_take (i := 11) (oi := { dst := some 8, op := _, type := _, pos := _, after := _, guard := none }) (v := .int .i64 k) rfl (by kernel_rfl) (by kernel_rfl) (by kernel_rfl) (fun _ _ _ h => h) (Or.inl ⟨by rfl, ?_⟩) hS ?_
    · intro wy hy
      clear hy
      go_simp
    simp only [Act.put, List.setIfInBounds_toArray, List.set_cons_zero, List.set_cons_succ]
    refine wpAnyH_take (i := 12) (oi := { dst := some 9, op := _, type := _, pos := _, after := _, guard := none }) (v := .bool true) rfl (by kernel_rfl) (by kernel_rfl) (by kernel_rfl) (fun _ _ _ h => h) (Or.inl ⟨by rfl, ?_⟩) hS ?_
    · intro wy hy
      clear hy
      go_simp
    simp only [Act.put, List.setIfInBounds_toArray, List.set_cons_zero, List.set_cons_succ]
    refine wpAnyH_done (by kernel_rfl) ?_ _
    clear hS
    clear HLK hbk
    have k1 : w3.cell? ⟨p, 2, none⟩ = some (.slice a2 x.copies.length c2) := HF3.out.blk.cell rfl
    obtain ⟨b, o, ea, _, hbl, hc⟩ := HF3.out.n2.at HE2.out
    subst ea
    have HRY := Hid.intro (rngScp hc)
    clear hc HE2
    have HTS := Hid.intro HZ3.out.there
    clear HZ3
    obtain ⟨wf, HE⟩ : ∃ wf, Hid (wf = w3.setCells w.heap.size 0 [.string v.service, .int .i64 v.number, .int .i64 v.version, .int .i64 v.image, .int .i64 v.state, .bool v.ending, .string v.berth]) := ⟨_, rfl⟩
    have HRf : Hid (wf.rangeAt w.heap.size 0 [.string v.service, .int .i64 v.number, .int .i64 v.version, .int .i64 v.image, .int .i64 v.state, .bool v.ending, .string v.berth]) := by
      show World.rangeAt _ _ _ _
      rw [HE.out]
      exact World.rangeAt_setCells_same _ _ _ _ HTS.out
    have HBf : Hid (Below w.heap.size w wf) := by
      show Below _ _ _
      rw [HE.out]
      exact below_setCells (Nat.le_refl _) _ _ _ hB3
    clear hB3
    go_wp2_with (first | (refine wpList_load_mid rfl 48 _ rfl b (o + k * 7) (by first | rfl | (simp [go_sem]; done)) [.string v.service, .int .i64 v.number, .int .i64 v.version, .int .i64 v.image, .int .i64 v.state, .bool v.ending, .string v.berth] _ HRY.out Try.underlying48 rfl isz_Scp ?_) | (refine wpList_store_to rfl 48 _ _ rfl w.heap.size 0 #[.string v.service, .int .i64 v.number, .int .i64 v.version, .int .i64 v.image, .int .i64 v.state, .bool v.ending, .string v.berth] (by first | rfl | (simp [go_sem]; done)) rfl HTS.out isz_Scp (by simp [Value.oneCell']) wf HE.out ?_))
    exact bodyPost_ret (results_cell_tmp rfl _ _ w.heap.size [.string v.service, .int .i64 v.number, .int .i64 v.version, .int .i64 v.image, .int .i64 v.state, .bool v.ending, .string v.berth] _ rfl HRf.out Try.underlying48 rfl isz_Scp) rfl ⟨.inl ⟨v, HE4.out, rfl⟩, HBf.out⟩

set_option maxHeartbeats 1000000 in
theorem letAll_any (c : Scp) (w : World) : Calls Try.prog 112 #[.agg #[], .agg #[.string c.service, .int .i64 c.number, .int .i64 c.version, .int .i64 c.image, .int .i64 c.state, .bool c.ending, .string c.berth]] w fun e w' => e = .returned (.bool true) ∧ Below w.heap.size w w' := by
  go_enter Try.func112, Try.ntmps112
  go_wp2_with fail
  go_ret
  exact ⟨rfl, by go_grown⟩

/-- what is kept ready -/
def krB (c : Scp) (R L : Int) : Bool := !(c.state == 3) || decide (L ≤ R - 1)

set_option maxHeartbeats 2000000 in
theorem keepReady_any (c : Scp) (R L : Int) (w : World) (hR : 0 ≤ R ∧ R ≤ 1000) : Calls Try.prog 113 #[.agg #[.int .i64 R, .int .i64 L], .agg #[.string c.service, .int .i64 c.number, .int .i64 c.version, .int .i64 c.image, .int .i64 c.state, .bool c.ending, .string c.berth]] w fun e w' => e = .returned (.bool (krB c R L)) ∧ Below w.heap.size w w' := by
  have hb : Below w.heap.size w ((w.alloc (Obj.cells #[.int .i64 R, .int .i64 L] 103)).alloc (Obj.cells #[.string c.service, .int .i64 c.number, .int .i64 c.version, .int .i64 c.image, .int .i64 c.state, .bool c.ending, .string c.berth] 48)) := by go_grown
  have HA : Blk w.heap.size #[.int .i64 R, .int .i64 L] 103 (w.alloc (Obj.cells #[.int .i64 R, .int .i64 L] 103)) := Blk.alloc _ _ _
  have HB : Hid (Blk (w.heap.size + 1) #[.string c.service, .int .i64 c.number, .int .i64 c.version, .int .i64 c.image, .int .i64 c.state, .bool c.ending, .string c.berth] 48 ((w.alloc (Obj.cells #[.int .i64 R, .int .i64 L] 103)).alloc (Obj.cells #[.string c.service, .int .i64 c.number, .int .i64 c.version, .int .i64 c.image, .int .i64 c.state, .bool c.ending, .string c.berth] 48))) := by
    have := Blk.alloc (w.alloc (Obj.cells #[.int .i64 R, .int .i64 L] 103)) #[.string c.service, .int .i64 c.number, .int .i64 c.version, .int .i64 c.image, .int .i64 c.state, .bool c.ending, .string c.berth] 48
    show Blk _ _ _ _
    simpa using this
  have HA2 : Hid (Blk w.heap.size #[.int .i64 R, .int .i64 L] 103 ((w.alloc (Obj.cells #[.int .i64 R, .int .i64 L] 103)).alloc (Obj.cells #[.string c.service, .int .i64 c.number, .int .i64 c.version, .int .i64 c.image, .int .i64 c.state, .bool c.ending, .string c.berth] 48))) := HA.below ((Below.refl _ _).alloc (Nat.le_refl _) _) HA.lt
  clear HA
  have HWR : Hid (IntKind.i64.wrap (R - 1) = R - 1) := by show _ = _; rw [IntKind.wrap_i64]; omega
  go_enter Try.func113, Try.ntmps113
  go_upto_region 1 with fail
  generalize (w.alloc (Obj.cells #[.int .i64 R, .int .i64 L] 103)).alloc (Obj.cells #[.string c.service, .int .i64 c.number, .int .i64 c.version, .int .i64 c.image, .int .i64 c.state, .bool c.ending, .string c.berth] 48) = w2 at *
  have k0 : w2.cell? ⟨w.heap.size, 0, none⟩ = some (.int .i64 R) := HA2.out.cell rfl
  have k1 : w2.cell? ⟨w.heap.size, 1, none⟩ = some (.int .i64 L) := HA2.out.cell rfl
  have k4 : w2.cell? ⟨w.heap.size + 1, 4, none⟩ = some (.int .i64 c.state) := HB.out.cell rfl
  clear HA2 HB
  generalize w.heap.size + 1 = g at *
  by_cases hs : c.state = 3
  · have hs2 : (c.state == 3) = true := by rw [hs]; rfl
    have hs3 : (c.state != 3) = false := by rw [hs]; rfl
    have HE : Hid (krB c R L = decide (L ≤ R - 1)) := by show _ = _; unfold krB; rw [hs2]; rfl
    clear hs
    go_wp2_with fail
    try rw [HWR.out]
    go_ret
    exact ⟨ret_bool (by rw [HE.out]), hb⟩
  · have hs2 : (c.state == 3) = false := by simpa using hs
    have hs3 : (c.state != 3) = true := by simpa using hs
    have HE : Hid (krB c R L = true) := by show _ = _; unfold krB; rw [hs2]; rfl
    go_wp2_with fail
    go_ret
    exact ⟨ret_bool HE.out.symm, hb⟩


end Go.Proofs.Ytfbmljdlkgiliaa
