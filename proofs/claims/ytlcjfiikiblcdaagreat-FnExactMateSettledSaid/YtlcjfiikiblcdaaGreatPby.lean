/-
  A table of places by their berths. Made by mkpby.py.
-/
import Derived.Test.YtlcjfiikiblcdaaGreatSep
import Derived.Test.YtlcjfiikiblcdaaGreatAv3
namespace Go.Proofs.YtlcjfiikiblcdaaGreat
open Go.RowKit Go.WideMaps Go.Maps

/-- any value, as it is -/
def anyElem (v : Value) : Option (DataW Value × List MemPlace) := some (.held v, [])
def zeroPl : Value := .agg #[.string ⟨#[]⟩, .int .i64 0, .slice none 0 0]
/-- the table behind the first k places, and what it tells of a name -/
def mTo (vs : List (ByteArray × Value)) : Nat → DataW Value
  | 0 => .map []
  | k + 1 => match vs[k]? with
    | some v => (mTo vs k).put (kOf v.1) (.held v.2)
    | none => mTo vs k
def fTo (vs : List (ByteArray × Value)) (s : ByteArray) : Nat → Value
  | 0 => zeroPl
  | k + 1 => match vs[k]? with
    | some v => if v.1 = s then v.2 else fTo vs s k
    | none => fTo vs s k

theorem mTo_step {vs : List (ByteArray × Value)} {k : Nat} {s : ByteArray} {v : Value} (h : vs[k]? = some (s, v)) : mTo vs (k + 1) = (mTo vs k).put (kOf s) (.held v) := by
  simp only [mTo, h]

theorem mTo_isMap (vs : List (ByteArray × Value)) : ∀ k, IsMap (mTo vs k)
  | 0 => ⟨_, rfl⟩
  | k + 1 => by
    unfold mTo
    split
    · exact IsMap.put (mTo_isMap vs k) _ _
    · exact mTo_isMap vs k

theorem at_mTo (vs : List (ByteArray × Value)) (s : ByteArray) : ∀ k, (mTo vs k).atKey (kOf s) (.held zeroPl) = .held (fTo vs s k)
  | 0 => rfl
  | k + 1 => by
    unfold mTo fTo
    split
    next v hv =>
      by_cases e : v.1 = s
      · rw [if_pos e, ← e]
        exact atKey_put_same (mTo_isMap vs k) (show WideAt.IsKeyLit (kOf _) from trivial) _ _
      · rw [if_neg e, atKey_put_other (fun h => e (kOf_inj h).symm)]
        exact at_mTo vs s k
    next => exact at_mTo vs s k

/-- the values of places, as they lie -/
def PlV (lo : Nat) (w : World) (a : Option Addr) (xs : List Plm) (vs : List (ByteArray × Value)) : Prop := ∀ (k : Nat) x, xs[k]? = some x → ∃ b o p2 q2, a = some ⟨b, o, none⟩ ∧ b < w.heap.size ∧ w.rangeAt b (o + k * 3) [.string x.berth, .int .i64 x.seen, .slice p2 x.wants.length q2] ∧ x.berth.size ≤ maxLen ∧ SliceC WntC 7 lo w p2 x.wants ∧ vs[k]? = some (x.berth, .agg #[.string x.berth, .int .i64 x.seen, .slice p2 x.wants.length q2])

theorem list_ofW {α : Type} {p : Nat → α → Prop} : ∀ (len : Nat), (∀ i, i < len → ∃ x, p i x) → ∃ l : List α, l.length = len ∧ ∀ i x, l[i]? = some x → p i x
  | 0, _ => ⟨[], rfl, fun i x h => by simp at h⟩
  | n + 1, h => by
    obtain ⟨l, hl, hp⟩ := list_ofW n (fun i hi => h i (by omega))
    obtain ⟨x, hx⟩ := h n (by omega)
    refine ⟨l ++ [x], by simp [hl], fun i y hy => ?_⟩
    by_cases hi : i < l.length
    · rw [List.getElem?_append_left hi] at hy
      exact hp i y hy
    · have hie : i = l.length := by have := lt_of_some hy; simp at this; omega
      subst hie
      simp at hy
      subst hy
      rw [hl]
      exact hx

theorem plv_of {lo : Nat} {w : World} {a : Option Addr} {xs : List Plm} (h : SliceC PlmC 3 lo w a xs) : ∃ vs, PlV lo w a xs vs := by
  obtain ⟨l, hl, hp⟩ := list_ofW (p := fun k (v : ByteArray × Value) => ∀ x, xs[k]? = some x → ∃ b o p2 q2, a = some ⟨b, o, none⟩ ∧ b < w.heap.size ∧ w.rangeAt b (o + k * 3) [.string x.berth, .int .i64 x.seen, .slice p2 x.wants.length q2] ∧ x.berth.size ≤ maxLen ∧ SliceC WntC 7 lo w p2 x.wants ∧ v = (x.berth, .agg #[.string x.berth, .int .i64 x.seen, .slice p2 x.wants.length q2])) xs.length (fun i hi => by
    have hx : xs[i]? = some xs[i] := List.getElem?_eq_getElem hi
    obtain ⟨b, o, e, _, hbl, hc⟩ := h.at hx
    obtain ⟨p2, q2, hc⟩ := hc
    have hr := plm_range hc
    obtain ⟨_, _, _, z0, n2⟩ := hc
    refine ⟨(xs[i].berth, .agg #[.string xs[i].berth, .int .i64 xs[i].seen, .slice p2 xs[i].wants.length q2]), fun x hx2 => ?_⟩
    have : xs[i] = x := Option.some.inj (hx.symm.trans hx2)
    subst this
    exact ⟨b, o, p2, q2, e, hbl, hr, z0, n2, rfl⟩)
  refine ⟨l, fun k x hx => ?_⟩
  have hk := lt_of_some hx
  have hv : l[k]? = some l[k] := List.getElem?_eq_getElem (by omega)
  obtain ⟨b, o, p2, q2, h1, h2, h3, h4, h5, h6⟩ := hp k _ hv x hx
  exact ⟨b, o, p2, q2, h1, h2, h3, h4, h5, by rw [hv, h6]⟩

theorem found_to {lo : Nat} {w : World} {a : Option Addr} {xs : List Plm} {vs : List (ByteArray × Value)} (h : PlV lo w a xs vs) (s : ByteArray) : ∀ k, k ≤ xs.length → ∃ (u : ByteArray) (t : Int) (p2 : Option Addr) (q2 : Nat), fTo vs s k = .agg #[.string u, .int .i64 t, .slice p2 (wTo xs s k).length q2] ∧ SliceC WntC 7 lo w p2 (wTo xs s k)
  | 0, _ => ⟨_, _, none, 0, rfl, SliceC.nil⟩
  | k + 1, hk => by
    have hx : xs[k]? = some xs[k] := List.getElem?_eq_getElem (by omega)
    obtain ⟨b, o, p2, q2, _, _, _, _, n2, hv⟩ := h k _ hx
    obtain ⟨u, t, p, q, h1, h2⟩ := found_to h s k (by omega)
    rw [wTo_step hx]
    unfold fTo
    rw [hv]
    by_cases e : xs[k].berth = s
    · simp only [e, if_true]
      exact ⟨_, _, p2, q2, rfl, n2⟩
    · simp only [e, if_false]
      exact ⟨u, t, p, q, h1, h2⟩

theorem zero_place (w : World) : (zeroValue 79).run Tryz.prog w = .ok zeroPl w := by kernel_rfl

theorem look_place {vs : List (ByteArray × Value)} {m n k : Nat} {w : World} {s : ByteArray} (h : w.ownsMap Tryz.prog 9 anyElem m n (mTo vs k)) (hs : s.size ≤ maxLen) :
    (Instr.lookup 81 (.map (some m)) (.string s) false).run Tryz.prog w = .ok (fTo vs s k) w := by
  obtain ⟨v, ps, hrun, hv⟩ := h.lookup law_str Tryz.underlying81 (zero_place w) (show anyElem zeroPl = some (.held zeroPl, []) from rfl) (keyOf_string_mk Tryz.underlying9 hs)
  have h2 : some (DataW.held v, ([] : List MemPlace)) = some ((mTo vs k).atKey (kOf s) (.held zeroPl), ps) := hv
  rw [at_mTo] at h2
  have h3 : DataW.held v = DataW.held (fTo vs s k) := congrArg Prod.fst (Option.some.inj h2)
  rw [hrun, DataW.held.inj h3]

set_option maxHeartbeats 4000000 in
set_option maxRecDepth 100000 in
theorem byNameP_any (xs : List Plm) (vs : List (ByteArray × Value)) (a : Option Addr) (cap lo : Nat) (w : World) (hin : PlV lo w a xs vs) (hsm : xs.length ≤ 1048576) :
    Calls Tryz.prog 48 #[.slice a xs.length cap, .func (.func 49) #[] #[]] w fun e w' => ∃ m n : Nat, e = .returned (.map (some m)) ∧ w.heap.size ≤ m ∧ n ≤ xs.length ∧ w'.ownsMap Tryz.prog 9 anyElem m n (mTo vs xs.length) ∧ Below w.heap.size w w' := by
  have hmm : ∀ q n w, (Instr.makeMap 81 (some (.int q n))).run Tryz.prog w = .ok (.map (some w.heap.size)) (w.alloc (.map #[] 0)) := fun q n w => run_makeMapHint Tryz.underlying81 q n w
  have HI := Hid.intro hin
  clear hin
  go_enter Tryz.func48, Tryz.ntmps48
  go_wp2_with fail
  go_loopw [13] (fun i wr => ∃ k n : Nat, k ≤ xs.length ∧ i = .int .i64 k ∧ Hid (n ≤ k) ∧ Hid (wr.ownsMap Tryz.prog 9 anyElem w.heap.size n (mTo vs k)) ∧ Below w.heap.size w wr) (fun i _ => xs.length - (intOf i).toNat)
  case atStart => exact ⟨0, 0, Nat.zero_le _, rfl, Nat.le_refl _, World.ownsMap_made _ _ _ _, (Below.refl _ _).alloc (Nat.le_refl _) _⟩
  case round =>
    clear hmm
    obtain ⟨k, n, hk, rfl, hn, HO, hB⟩ := hrel
    by_cases hlt : k < xs.length
    case neg =>
      have hke : k = xs.length := by omega
      subst hke
      have HOE : Hid (wr.ownsMap Tryz.prog 9 anyElem w.heap.size n (mTo vs xs.length)) := by show World.ownsMap _ _ _ _ _ _ _; exact HO.out
      go_wp2_with fail
      go_ret
      exact ⟨w.heap.size, n, rfl, Nat.le_refl _, hn.out, HOE.out, hB⟩
    obtain ⟨x, hx⟩ : ∃ x, xs[k]? = some x := ⟨xs[k], List.getElem?_eq_getElem hlt⟩
    obtain ⟨b, o, p2, q2, e1, hbl, hra, z0, n2, hv⟩ := HI.out k x hx
    subst e1
    have HRA := Hid.intro (range_belowW hra hB hbl)
    have hkm : keyOf Tryz.prog 9 (.string x.berth) = some (kOf x.berth) := keyOf_string_mk Tryz.underlying9 z0
    have HVX := Hid.intro hv
    clear z0 hx hra n2 hv
    have hn2 := hn.out
    have HK4 : Hid (Blk wr.heap.size #[.string x.berth, .int .i64 x.seen, .slice p2 x.wants.length q2] 79 (wr.alloc (Obj.cells #[.string x.berth, .int .i64 x.seen, .slice p2 x.wants.length q2] 79))) := Blk.alloc _ _ _
    have HO4 := Hid.intro (HO.out.alloc (Obj.cells #[.string x.berth, .int .i64 x.seen, .slice p2 x.wants.length q2] 79))
    have hB4 : Below w.heap.size w (wr.alloc (Obj.cells #[.string x.berth, .int .i64 x.seen, .slice p2 x.wants.length q2] 79)) := hB.trans (((Below.refl wr.heap.size wr).alloc (Nat.le_refl _) _).mono hB.size)
    have hmg : w.heap.size < wr.heap.size := HO.out.lt
    clear HO hB
    go_upto_region 5 with (refine wpList_load_mid rfl 79 _ rfl b (o + k * 3) (by first | rfl | (simp [go_sem]; done)) [.string x.berth, .int .i64 x.seen, .slice p2 x.wants.length q2] _ HRA.out Tryz.underlying79 rfl isz_Plm ?_)
    clear HRA
    generalize wr.alloc (Obj.cells #[.string x.berth, .int .i64 x.seen, .slice p2 x.wants.length q2] 79) = w4 at *
    generalize wr.heap.size = g at *
    refine wp_region_held_drew (S := fun wy => Blk g #[.string x.berth, .int .i64 x.seen, .slice p2 x.wants.length q2] 79 wy) (by kernel_rfl) HK4.out.drew (fun hS => ?_)
    have hBd : Below w.heap.size w w4.drew := hB4.trans ((Below.refl w.heap.size w4).drew)
    have HOd := Hid.intro HO4.out.drew
    generalize w4.drew = wd at *
    refine wpAnyH_take (i := 0) (oi := { dst := some 17, op := _, type := _, pos := _, after := _, guard := none }) (v := .map (some w.heap.size)) rfl (by kernel_rfl) (by kernel_rfl) (by kernel_rfl) (fun _ _ _ h => h) (Or.inl ⟨by rfl, ?_⟩) hS ?_
    · intro wy hy
      clear hy
      go_simp
    simp only [Act.put, List.setIfInBounds_toArray, List.set_cons_zero, List.set_cons_succ]
    refine wpAnyH_take (i := 1) (oi := { dst := some 18, op := _, type := _, pos := _, after := _, guard := none }) (v := .func (.func 49) #[] #[]) rfl (by kernel_rfl) (by kernel_rfl) (by kernel_rfl) (fun _ _ _ h => h) (Or.inl ⟨by rfl, ?_⟩) hS ?_
    · intro wy hy
      clear hy
      go_simp
    simp only [Act.put, List.setIfInBounds_toArray, List.set_cons_zero, List.set_cons_succ]
    refine wpAnyH_take (i := 2) (oi := { dst := some 19, op := _, type := _, pos := _, after := _, guard := none }) (v := .agg #[.string x.berth, .int .i64 x.seen, .slice p2 x.wants.length q2]) rfl (by kernel_rfl) (by kernel_rfl) (by kernel_rfl) (fun _ _ _ h => h) (yieldsIf_load_mid (by rfl) _ _ rfl g (0) rfl [.string x.berth, .int .i64 x.seen, .slice p2 x.wants.length q2] _ (fun _ h => h.rangeA) Tryz.underlying79 rfl isz_Plm) hS ?_
    simp only [Act.put, List.setIfInBounds_toArray, List.set_cons_zero, List.set_cons_succ]
    refine wpAnyH_take (i := 4) (oi := { dst := some 21, op := _, type := _, pos := _, after := _, guard := none }) (v := .agg #[.string x.berth, .int .i64 x.seen, .slice p2 x.wants.length q2]) rfl (by kernel_rfl) (by kernel_rfl) (by kernel_rfl) (fun _ _ _ h => h) (yieldsIf_load_mid (by rfl) _ _ rfl g (0) rfl [.string x.berth, .int .i64 x.seen, .slice p2 x.wants.length q2] _ (fun _ h => h.rangeA) Tryz.underlying79 rfl isz_Plm) hS ?_
    simp only [Act.put, List.setIfInBounds_toArray, List.set_cons_zero, List.set_cons_succ]
    refine wpAnyH_ready (rs := [3]) (by kernel_rfl) (by simp) (AllReadyH.cons (o := { dst := some 20, op := _, type := _, pos := _, after := _, guard := none }) rfl (fun K hK => ?_) AllReadyH.nil)
    go_simp
    refine (namePlm_any x p2 q2 _).mono ?_
    rintro e w5 ⟨rfl, hb5⟩
    have hB5 := hBd.trans (hb5.mono hBd.size)
    have HO5 := Hid.intro (ownsMap_below HOd.out hb5 HOd.out.lt)
    refine hK.out _ _ (hS.below hb5 hS.lt) (fun hS => ?_)
    clear hK K
    clear hb5 HOd HO4 hBd hB4
    obtain ⟨w6, yu, ho6, hg6⟩ := HO5.out.update law_str Tryz.underlying81 (by unfold maxLen; omega) hkm (rfl)
    have HG6 := Hid.intro hg6
    have hB6 : Below w.heap.size w w6 := hB5.grown hg6 hB5.size (fun j hj => by cases hj; exact Nat.le_refl _)
    have HO6 : Hid (w6.ownsMap Tryz.prog 9 anyElem w.heap.size (n + 1) (mTo vs (k + 1))) := by show World.ownsMap _ _ _ _ _ _ _; rw [mTo_step HVX.out]; exact ho6
    clear ho6 hg6
    refine wpAnyH_ready (rs := [5]) (by kernel_rfl) (by simp) (AllReadyH.cons (o := { dst := none, op := _, type := _, pos := _, after := _, guard := none }) rfl (fun K hK => ?_) AllReadyH.nil)
    go_simp
    refine hK.out _ _ (hS.grown HG6.out (fun h => absurd (Option.some.inj h) (by show ¬ _ = _; omega))) (fun hS => ?_)
    clear hK K yu hkm HO5 hB5 HG6
    refine wpAnyH_done (by kernel_rfl) ?_ _
    clear hS
    go_wp2_with fail
    go_roundw
    case rel => exact ⟨k + 1, n + 1, by omega, by go_num, by show _ ≤ _; omega, HO6, hB6⟩
    case measure => simp [intOf]; omega

end Go.Proofs.YtlcjfiikiblcdaaGreat
