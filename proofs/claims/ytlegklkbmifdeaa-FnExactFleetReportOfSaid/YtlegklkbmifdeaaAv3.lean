/-
  A table of asks by their holds. Made by mkav3.py.
-/
import Derived.Test.YtlegklkbmifdeaaAv1
import Derived.Maps.OwnSet
namespace Go.Proofs.Ytlegklkbmifdeaa
open Go.RowKit Go.WideMaps Go.Maps

/-- the value of an ask, read -/
def aksElem (v : Value) : Option (DataW Unit × List MemPlace) := match v with
  | .agg cs => match cs.toList with
    | [.string h, .string c, .int .i64 f, .int .i64 a] => some (.agg [.lit (.string h.data.toList), .lit (.string c.data.toList), .lit (.int .i64 f), .lit (.int .i64 a)], [])
    | _ => none
  | _ => none

def datA (x : Aks) : DataW Unit := .agg [.lit (.string x.hold.data.toList), .lit (.string x.copy.data.toList), .lit (.int .i64 x.first), .lit (.int .i64 x.at_)]

theorem aksElem_mk (x : Aks) : aksElem (.agg #[.string x.hold, .string x.copy, .int .i64 x.first, .int .i64 x.at_]) = some (datA x, []) := rfl

theorem aksElem_inv {v : Value} {z : DataW Unit × List MemPlace} (h : aksElem v = some z) : ∃ x : Aks, v = .agg #[.string x.hold, .string x.copy, .int .i64 x.first, .int .i64 x.at_] ∧ z = (datA x, []) := by
  cases v with
  | agg cs =>
    obtain ⟨l⟩ := cs
    match l, h with
    | [.string h, .string c, .int .i64 f, .int .i64 a], e => exact ⟨⟨h, c, f, a⟩, rfl, (Option.some.inj e).symm⟩
  | _ => cases h

theorem ba_inj {s t : ByteArray} (h : s.data.toList = t.data.toList) : s = t := by
  obtain ⟨⟨a⟩⟩ := s
  obtain ⟨⟨b⟩⟩ := t
  simp at h
  rw [h]

theorem datA_inj {x y : Aks} (h : datA x = datA y) : x = y := by
  unfold datA at h
  injection h with h
  injection h with h0 h
  injection h with h1 h
  injection h with h2 h
  injection h with h3 _
  injection h0 with h0
  injection h0 with h0
  injection h1 with h1
  injection h1 with h1
  injection h2 with h2
  injection h2 with _ h2
  injection h3 with h3
  injection h3 with _ h3
  obtain ⟨a, b, c, d⟩ := x
  obtain ⟨a', b', c', d'⟩ := y
  simp only at h0 h1 h2 h3
  rw [ba_inj h0, ba_inj h1, h2, h3]

/-- a table of asks, the last one first -/
def asM : List Aks → DataW Unit
  | [] => .map []
  | a :: r => (asM r).put (kOf a.hold) (datA a)

theorem asM_isMap : ∀ r, IsMap (asM r)
  | [] => ⟨_, rfl⟩
  | _ :: r => IsMap.put (asM_isMap r) _ _

theorem has_asM (s : ByteArray) : ∀ r, has (asM r) (kOf s) = r.any (fun a => decide (a.hold = s))
  | [] => rfl
  | a :: r => by
    by_cases e : a.hold = s
    · unfold asM
      rw [← e]
      simp
      exact has_put_same (asM_isMap r) (show WideAt.IsKeyLit (kOf _) from trivial) _
    · unfold asM
      rw [has_put_other (fun h => e (kOf_inj h).symm), has_asM s r]
      simp [e]

theorem at_asM (s : ByteArray) (d : DataW Unit) : ∀ r, (asM r).atKey (kOf s) d = match r.find? (fun a => decide (a.hold = s)) with
    | some a => datA a
    | none => d
  | [] => rfl
  | a :: r => by
    by_cases e : a.hold = s
    · unfold asM
      simp only [List.find?_cons, e, decide_true]
      exact atKey_put_same (asM_isMap r) (show WideAt.IsKeyLit (kOf _) from trivial) _ _
    · unfold asM
      rw [atKey_put_other (fun h => e (kOf_inj h).symm), at_asM s d r]
      simp [e]

theorem take_rev {α : Type} {xs : List α} {k : Nat} {x : α} (h : xs[k]? = some x) : (xs.take (k + 1)).reverse = x :: (xs.take k).reverse := by
  rw [List.take_add_one, h]
  simp

theorem zero_ask (w : World) : (zeroValue 79).run Try.prog w = .ok (.agg #[.string ⟨#[]⟩, .string ⟨#[]⟩, .int .i64 0, .int .i64 0]) w := by kernel_rfl

set_option maxHeartbeats 4000000 in
set_option maxRecDepth 100000 in
theorem byNameA_any (xs : List Aks) (a : Option Addr) (cap lo : Nat) (w : World) (hin : SliceC AksC 4 lo w a xs) (hsm : xs.length ≤ 1048576) :
    Calls Try.prog 82 #[.slice a xs.length cap, .func (.func 80) #[] #[]] w fun e w' => ∃ m n : Nat, e = .returned (.map (some m)) ∧ w.heap.size ≤ m ∧ n ≤ xs.length ∧ w'.ownsMap Try.prog 9 aksElem m n (asM xs.reverse) ∧ Below w.heap.size w w' := by
  have hmm : ∀ q n w, (Instr.makeMap 112 (some (.int q n))).run Try.prog w = .ok (.map (some w.heap.size)) (w.alloc (.map #[] 0)) := fun q n w => run_makeMapHint Try.underlying112 q n w
  have HI : Hid (SliceC AksC 4 lo w a xs) := hin
  clear hin
  go_enter Try.func82, Try.ntmps82
  go_wp2_with fail
  go_loopw [13] (fun i wr => ∃ k n : Nat, k ≤ xs.length ∧ i = .int .i64 k ∧ Hid (n ≤ k) ∧ Hid (wr.ownsMap Try.prog 9 aksElem w.heap.size n (asM (xs.take k).reverse)) ∧ Below w.heap.size w wr) (fun i _ => xs.length - (intOf i).toNat)
  case atStart => exact ⟨0, 0, Nat.zero_le _, rfl, Nat.le_refl _, World.ownsMap_made _ _ _ _, (Below.refl _ _).alloc (Nat.le_refl _) _⟩
  case round =>
    clear hmm
    obtain ⟨k, n, hk, rfl, hn, HO, hB⟩ := hrel
    by_cases hlt : k < xs.length
    case neg =>
      have hke : k = xs.length := by omega
      subst hke
      have HOE : Hid (wr.ownsMap Try.prog 9 aksElem w.heap.size n (asM xs.reverse)) := by show World.ownsMap _ _ _ _ _ _ _; have := HO.out; rw [List.take_length] at this; exact this
      go_wp2_with fail
      go_ret
      exact ⟨w.heap.size, n, rfl, Nat.le_refl _, hn.out, HOE.out, hB⟩
    obtain ⟨x, hx⟩ : ∃ x, xs[k]? = some x := ⟨xs[k], List.getElem?_eq_getElem hlt⟩
    obtain ⟨b, o, rfl, _, hbl, hc⟩ := (HI.out.below AksC.holds hB (Nat.le_refl _)).at hx
    have HRA := Hid.intro (aks_range hc)
    obtain ⟨_, _, _, _, z0, z1⟩ := hc
    have hkm : keyOf Try.prog 9 (.string x.hold) = some (kOf x.hold) := keyOf_string_mk Try.underlying9 z0
    have HXX := Hid.intro hx
    clear z0 z1 hx
    have hn2 := hn.out
    have HK4 : Hid (Blk wr.heap.size #[.string x.hold, .string x.copy, .int .i64 x.first, .int .i64 x.at_] 79 (wr.alloc (Obj.cells #[.string x.hold, .string x.copy, .int .i64 x.first, .int .i64 x.at_] 79))) := Blk.alloc _ _ _
    have HO4 := Hid.intro (HO.out.alloc (Obj.cells #[.string x.hold, .string x.copy, .int .i64 x.first, .int .i64 x.at_] 79))
    have hB4 : Below w.heap.size w (wr.alloc (Obj.cells #[.string x.hold, .string x.copy, .int .i64 x.first, .int .i64 x.at_] 79)) := hB.trans (((Below.refl wr.heap.size wr).alloc (Nat.le_refl _) _).mono hB.size)
    have hmg : w.heap.size < wr.heap.size := HO.out.lt
    clear HO hB
    go_upto_region 5 with (refine wpList_load_mid rfl 79 _ rfl b (o + k * 4) (by first | rfl | (simp [go_sem]; done)) [.string x.hold, .string x.copy, .int .i64 x.first, .int .i64 x.at_] _ HRA.out Try.underlying79 rfl isz_Aks ?_)
    clear HRA
    generalize wr.alloc (Obj.cells #[.string x.hold, .string x.copy, .int .i64 x.first, .int .i64 x.at_] 79) = w4 at *
    generalize wr.heap.size = g at *
    refine wp_region_held_drew (S := fun wy => Blk g #[.string x.hold, .string x.copy, .int .i64 x.first, .int .i64 x.at_] 79 wy) (by kernel_rfl) HK4.out.drew (fun hS => ?_)
    have hBd : Below w.heap.size w w4.drew := hB4.trans ((Below.refl w.heap.size w4).drew)
    have HOd := Hid.intro HO4.out.drew
    generalize w4.drew = wd at *
    refine wpAnyH_take (i := 0) (oi := { dst := some 17, op := _, type := _, pos := _, after := _, guard := none }) (v := .map (some w.heap.size)) rfl (by kernel_rfl) (by kernel_rfl) (by kernel_rfl) (fun _ _ _ h => h) (Or.inl ⟨by rfl, ?_⟩) hS ?_
    · intro wy hy
      clear hy
      go_simp
    simp only [Act.put, List.setIfInBounds_toArray, List.set_cons_zero, List.set_cons_succ]
    refine wpAnyH_take (i := 1) (oi := { dst := some 18, op := _, type := _, pos := _, after := _, guard := none }) (v := .func (.func 80) #[] #[]) rfl (by kernel_rfl) (by kernel_rfl) (by kernel_rfl) (fun _ _ _ h => h) (Or.inl ⟨by rfl, ?_⟩) hS ?_
    · intro wy hy
      clear hy
      go_simp
    simp only [Act.put, List.setIfInBounds_toArray, List.set_cons_zero, List.set_cons_succ]
    refine wpAnyH_take (i := 2) (oi := { dst := some 19, op := _, type := _, pos := _, after := _, guard := none }) (v := .agg #[.string x.hold, .string x.copy, .int .i64 x.first, .int .i64 x.at_]) rfl (by kernel_rfl) (by kernel_rfl) (by kernel_rfl) (fun _ _ _ h => h) (yieldsIf_load_mid (by rfl) _ _ rfl g (0) rfl [.string x.hold, .string x.copy, .int .i64 x.first, .int .i64 x.at_] _ (fun _ h => h.rangeA) Try.underlying79 rfl isz_Aks) hS ?_
    simp only [Act.put, List.setIfInBounds_toArray, List.set_cons_zero, List.set_cons_succ]
    refine wpAnyH_take (i := 4) (oi := { dst := some 21, op := _, type := _, pos := _, after := _, guard := none }) (v := .agg #[.string x.hold, .string x.copy, .int .i64 x.first, .int .i64 x.at_]) rfl (by kernel_rfl) (by kernel_rfl) (by kernel_rfl) (fun _ _ _ h => h) (yieldsIf_load_mid (by rfl) _ _ rfl g (0) rfl [.string x.hold, .string x.copy, .int .i64 x.first, .int .i64 x.at_] _ (fun _ h => h.rangeA) Try.underlying79 rfl isz_Aks) hS ?_
    simp only [Act.put, List.setIfInBounds_toArray, List.set_cons_zero, List.set_cons_succ]
    refine wpAnyH_ready (rs := [3]) (by kernel_rfl) (by simp) (AllReadyH.cons (o := { dst := some 20, op := _, type := _, pos := _, after := _, guard := none }) rfl (fun K hK => ?_) AllReadyH.nil)
    go_simp
    refine (nameAks_any x _).mono ?_
    rintro e w5 ⟨rfl, hb5⟩
    have hB5 := hBd.trans (hb5.mono hBd.size)
    have HO5 := Hid.intro (ownsMap_below HOd.out hb5 HOd.out.lt)
    refine hK.out _ _ (hS.below hb5 hS.lt) (fun hS => ?_)
    clear hK K
    clear hb5 HOd HO4 hBd hB4
    obtain ⟨w6, yu, ho6, hg6⟩ := HO5.out.update law_str Try.underlying112 (by unfold maxLen; omega) hkm (aksElem_mk x)
    have HG6 := Hid.intro hg6
    have hB6 : Below w.heap.size w w6 := hB5.grown hg6 hB5.size (fun j hj => by cases hj; exact Nat.le_refl _)
    have HO6 : Hid (w6.ownsMap Try.prog 9 aksElem w.heap.size (n + 1) (asM (xs.take (k + 1)).reverse)) := by show World.ownsMap _ _ _ _ _ _ _; rw [take_rev HXX.out]; exact ho6
    clear ho6 hg6
    refine wpAnyH_ready (rs := [5]) (by kernel_rfl) (by simp) (AllReadyH.cons (o := { dst := none, op := _, type := _, pos := _, after := _, guard := none }) rfl (fun K hK => ?_) AllReadyH.nil)
    go_simp
    refine hK.out _ _ (hS.grown HG6.out (fun h => absurd (Option.some.inj h) (by show ¬ _ = _; omega))) (fun hS => ?_)
    clear hK K yu hkm HO5 hB5 HG6
    refine wpAnyH_done (by kernel_rfl) ?_ _
    clear hS
    go_wp2_with fail
    go_roundw
    case rel => exact ⟨k + 1, n + 1, by omega, by go_num, by show _ ≤ _; omega, HO6, hB6⟩
    case measure => simp [intOf]; omega

theorem any_rev {α : Type} (xs : List α) (p : α → Bool) : xs.reverse.any p = xs.any p := by simp

/-- no hold in both -/
def apB (xs ys : List Aks) : Bool := xs.all (fun a => !(ys.any (fun g => decide (g.hold = a.hold))))

theorem apB_no {xs ys : List Aks} {k : Nat} {x : Aks} (h : xs[k]? = some x) (hr : ys.any (fun g => decide (g.hold = x.hold)) = true) : apB xs ys = false := by
  unfold apB
  rw [List.all_eq_false]
  exact ⟨x, List.mem_of_getElem? h, by simp only [hr]; decide⟩

theorem apB_yes {xs ys : List Aks} (h : ∀ (j : Nat) x, j < xs.length → xs[j]? = some x → ys.any (fun g => decide (g.hold = x.hold)) = false) : apB xs ys = true := by
  unfold apB
  rw [List.all_eq_true]
  intro r hr
  obtain ⟨j, hj, e⟩ := List.getElem_of_mem hr
  rw [h j r hj (by rw [List.getElem?_eq_getElem hj, e])]
  rfl

set_option maxHeartbeats 4000000 in
set_option maxRecDepth 100000 in
theorem apart_any (xs ys : List Aks) (a : Option Addr) (cap lo : Nat) (d : Option Addr) (dcap : Nat) (w : World) (hin : SliceC AksC 4 lo w a xs) (hin2 : SliceC AksC 4 lo w d ys) (hsm : xs.length ≤ 1048576) (hsm2 : ys.length ≤ 1048576) :
    Calls Try.prog 70 #[.slice a xs.length cap, .slice d ys.length dcap] w fun e w' => e = .returned (.bool (apB xs ys)) ∧ Below w.heap.size w w' := by
  have HI : Hid (SliceC AksC 4 lo w a xs) := hin
  have HJ : Hid (SliceC AksC 4 lo w d ys) := hin2
  clear hin hin2
  go_enter Try.func70, Try.ntmps70
  go_wp2_with fail
  refine (byNameA_any ys d dcap lo _ HJ.out hsm2).mono ?_
  rintro e w1 ⟨m, n, rfl, hm, hn, ho, hb1⟩
  have HO1 := Hid.intro ho
  have HHA := Hid.intro (fun s => has_asM s ys.reverse)
  clear ho HJ
  go_wp2_with fail
  go_loopw [14] (fun i wr => ∃ k : Nat, k ≤ xs.length ∧ i = .int .i64 k ∧ Hid (∀ (j : Nat) x, j < k → xs[j]? = some x → ys.any (fun g => decide (g.hold = x.hold)) = false) ∧ Hid (wr.ownsMap Try.prog 9 aksElem m n (asM ys.reverse)) ∧ Below w.heap.size w wr) (fun i _ => xs.length - (intOf i).toNat)
  case atStart => exact ⟨0, Nat.zero_le _, rfl, fun j q h => by omega, HO1, hb1⟩
  case round =>
    clear hb1 HO1
    obtain ⟨k, hk, rfl, hN, HO, hB⟩ := hrel
    by_cases hlt : k < xs.length
    case neg =>
      have hke : k = xs.length := by omega
      subst hke
      have HE := Hid.intro (apB_yes hN.out)
      go_wp2_with fail
      go_ret
      exact ⟨ret_bool HE.out.symm, hB⟩
    obtain ⟨x, hx⟩ : ∃ x, xs[k]? = some x := ⟨xs[k], List.getElem?_eq_getElem hlt⟩
    obtain ⟨b, o, rfl, _, hbl, hc⟩ := (HI.out.below AksC.holds hB (Nat.le_refl _)).at hx
    have HRA := Hid.intro (aks_range hc)
    obtain ⟨_, _, _, _, z0, z1⟩ := hc
    have hkm : keyOf Try.prog 9 (.string x.hold) = some (kOf x.hold) := keyOf_string_mk Try.underlying9 z0
    have HXX := Hid.intro hx
    clear z0 z1 hx
    have HK4 : Hid (Blk wr.heap.size #[.string x.hold, .string x.copy, .int .i64 x.first, .int .i64 x.at_] 79 (wr.alloc (Obj.cells #[.string x.hold, .string x.copy, .int .i64 x.first, .int .i64 x.at_] 79))) := Blk.alloc _ _ _
    have HO4 := Hid.intro (HO.out.alloc (Obj.cells #[.string x.hold, .string x.copy, .int .i64 x.first, .int .i64 x.at_] 79))
    have hB4 : Below w.heap.size w (wr.alloc (Obj.cells #[.string x.hold, .string x.copy, .int .i64 x.first, .int .i64 x.at_] 79)) := hB.trans (((Below.refl wr.heap.size wr).alloc (Nat.le_refl _) _).mono hB.size)
    clear HO hB
    go_upto_region 5 with (refine wpList_load_mid rfl 79 _ rfl b (o + k * 4) (by first | rfl | (simp [go_sem]; done)) [.string x.hold, .string x.copy, .int .i64 x.first, .int .i64 x.at_] _ HRA.out Try.underlying79 rfl isz_Aks ?_)
    clear HRA
    generalize wr.alloc (Obj.cells #[.string x.hold, .string x.copy, .int .i64 x.first, .int .i64 x.at_] 79) = w4 at *
    generalize wr.heap.size = g at *
    have k0 : w4.cell? ⟨g, 0, none⟩ = some (.string x.hold) := HK4.out.cell rfl
    obtain ⟨v, ps, hrun, hv⟩ := HO4.out.look_ok law_str Try.underlying112 (zero_ask _) (aksElem_mk ⟨⟨#[]⟩, ⟨#[]⟩, 0, 0⟩) hkm
    obtain ⟨z, rfl, _⟩ := aksElem_inv hv
    rw [HHA.out, any_rev] at hrun
    clear hv hkm
    have hBf : Below w.heap.size w (w4.alloc (Obj.cells #[.string z.hold, .string z.copy, .int .i64 z.first, .int .i64 z.at_] 79)) := hB4.trans (((Below.refl w4.heap.size w4).alloc (Nat.le_refl _) _).mono hB4.size)
    have HOf := Hid.intro (HO4.out.alloc (Obj.cells #[.string z.hold, .string z.copy, .int .i64 z.first, .int .i64 z.at_] 79))
    clear HO4 HK4
    cases hq : ys.any (fun g => decide (g.hold = x.hold)) with
    | true =>
      have HE := Hid.intro (apB_no HXX.out hq)
      rw [hq] at hrun
      clear hq
      go_wp2_with fail
      go_ret
      exact ⟨ret_bool HE.out.symm, hBf⟩
    | false =>
      have HN2 : Hid (∀ (j : Nat) y, j < k + 1 → xs[j]? = some y → ys.any (fun g => decide (g.hold = y.hold)) = false) := fun j y hj hy => by
        by_cases e : j = k
        · subst e
          have := HXX.out.symm.trans hy
          cases this
          exact hq
        · exact hN.out j y (by omega) hy
      rw [hq] at hrun
      clear hq
      go_wp2_with fail
      go_roundw
      case rel => exact ⟨k + 1, by omega, by go_num, HN2, HOf, hBf⟩
      case measure => simp [intOf]; omega

end Go.Proofs.Ytlegklkbmifdeaa
