/-
  Several texts in one: Hst, Hqv, Hqp.
-/
import Derived.Test.YtggbhggnemlpnaaGreatShp
import Derived.Deep.RegionHeld3
import Derived.Test.YtggbhggnemlpnaaGreatHqr
import Derived.OwnWalkIn
import Derived.OrdersIn
import Derived.Test.YtggbhggnemlpnaaGreatHqe
namespace Go.Proofs.YtggbhggnemlpnaaGreat
open Go.RowKit

section
variable {P : Program} {ops : Array Oper} {Q : Exit → Act → World → Prop} {md : Region.Mode} {S : World → Prop} {s : Nat}

/-- whatever order is picked: S holds behind each operation but s -/
def wpAnyU (P : Program) (md : Region.Mode) (ops : Array Oper) (Q : Exit → Act → World → Prop) (s : Nat) (S : World → Prop) : Nat → Array Bool → Act → World → Prop
  | 0, l, a, w => Region.ready md ops l = [] ∧ Q .normal a w
  | n + 1, l, a, w => (Region.ready md ops l = [] → Q .normal a w) ∧ ∀ i ∈ Region.ready md ops l, wpOp P ops Q i (fun b u => (i ≠ s → S u) ∧ wpAnyU P md ops Q s S n (l.setIfInBounds i true) b u) a w

/-- operation s waits for operation i -/
def waitsFor (md : Region.Mode) (ops : Array Oper) (s i : Nat) : Bool :=
  match ops[s]? with
  | some o => o.after.any (fun e => Region.binds md e && e.on == i)
  | none => false

theorem wpAnyU.any : ∀ (n : Nat) (l : Array Bool) (a : Act) (w : World), wpAnyU P md ops Q s S n l a w → wpAny P md ops Q n l a w
  | 0, _, _, _, h => h
  | n + 1, _, _, _, h => ⟨h.1, fun i hi => wpOp_mono (fun b u k => wpAnyU.any n _ b u k.2) (h.2 i hi)⟩

theorem wpAnyU_mono {S' : World → Prop} (hS : ∀ w, S' w → S w) : ∀ (n : Nat) (l : Array Bool) (a : Act) (w : World), wpAnyU P md ops Q s S' n l a w → wpAnyU P md ops Q s S n l a w
  | 0, _, _, _, h => h
  | n + 1, _, _, _, h => ⟨h.1, fun i hi => wpOp_mono (fun b u k => ⟨fun e => hS u (k.1 e), wpAnyU_mono hS n _ b u k.2⟩) (h.2 i hi)⟩

theorem wpAnyU_name {n : Nat} {l : Array Bool} {a : Act} {w : World} (h : ∀ Z : (World → Prop) → Nat → Array Bool → Act → World → Prop, Hid (Z = wpAnyU P md ops Q s) → Z S n l a w) : wpAnyU P md ops Q s S n l a w := h _ (Hid.intro rfl)

/-- what s waits for and what yields the same while S holds may be taken first -/
theorem wpAnyU.first {i : Nat} {oi : Oper} {v : Value} (hi : ops[i]? = some oi) (hsel : ∀ (j : Nat) (o : Oper) cs b, ops[j]? = some o → o.op ≠ .select cs b)
    (hQ : ∀ c a w, Q (.panic c) (a.put oi.dst v) w → Q (.panic c) a w) (hws : waitsFor md ops s i = true) :
    ∀ (n : Nat) (l : Array Bool) (a : Act) (w : World),
      (∀ j oj, ops[j]? = some oj → j ≠ i → l.getD j true = false → (∀ e ∈ oj.after, Region.binds md e = true → e.on ≠ i) → oi.apart ops oj = true) →
      i ∈ Region.ready md ops l → YieldsIf P ops S oi v a → S w →
      wpAnyU P md ops Q s S n (l.setIfInBounds i true) (a.put oi.dst v) w → wpAnyU P md ops Q s S (n + 1) l a w
  | 0, l, a, w, _, hr, hy, hS, H => by
    refine ⟨fun h => (by rw [h] at hr; cases hr), fun j hj => ?_⟩
    by_cases e : j = i
    · rw [e]
      exact hy.wpOp hi hS ⟨fun _ => hS, H⟩
    · have h0 := ready_mono hj e
      rw [H.1] at h0
      cases h0
  | n + 1, l, a, w, hfree, hr, hy, hS, H => by
    refine ⟨fun h => (by rw [h] at hr; cases hr), fun j hj => ?_⟩
    by_cases e : j = i
    · rw [e]
      exact hy.wpOp hi hS ⟨fun _ => hS, H⟩
    · obtain ⟨hjun, oj, hoj, hall⟩ := mem_ready.1 hj
      have hno : ∀ e ∈ oj.after, Region.binds md e = true → e.on ≠ i := fun e he hb heq => by
        have k1 := hall e he hb
        have k0 := (mem_ready.1 hr).1
        rw [heq] at k1
        rcases Nat.lt_or_ge i l.size with h' | h'
        · simp [h'] at k0 k1
          rw [k0] at k1
          cases k1
        · simp [Array.getElem?_eq_none h'] at k1
      have hjs : j ≠ s := fun e1 => by
        rw [e1] at hoj
        unfold waitsFor at hws
        rw [hoj] at hws
        obtain ⟨q, hq, hq2⟩ := Array.any_eq_true'.1 hws
        rw [Bool.and_eq_true] at hq2
        exact hno q hq hq2.1 (by simpa using hq2.2)
      have h2 := wpOp_putIf hoj (hfree j oj hoj e hjun hno) (fun cs b => hsel i oi cs b hi) (fun cs b => hsel j oj cs b hoj) hQ hy (H.2 j (ready_mono hj e))
      refine wpOp_mono (fun b u k => ⟨fun _ => k.2.1 hjs, wpAnyU.first hi hsel hQ hws n (l.setIfInBounds j true) b u (fun m om hm hmi hun hn => hfree m om hm hmi ?_ hn) (ready_mono hr (Ne.symm e)) k.1 (k.2.1 hjs) ?_⟩) h2
      · by_cases hjm : j = m
        · rw [← hjm]
          exact hjun
        · rw [getD_set_ne true hjm] at hun
          exact hun
      · rw [Array.setIfInBounds_comm _ _ e]
        exact k.2.2

theorem wpAnyU_take {i : Nat} {oi : Oper} {v : Value} {n : Nat} {l : Array Bool} {a : Act} {w : World} (hi : ops[i]? = some oi)
    (hs : Region.noSelect ops = true) (hf : Region.free md ops l i = true) (hr : (Region.ready md ops l).contains i = true) (hws : waitsFor md ops s i = true)
    (hQ : ∀ c a w, Q (.panic c) (a.put oi.dst v) w → Q (.panic c) a w) (hy : YieldsIf P ops S oi v a) (hS : S w)
    (h : wpAnyU P md ops Q s S n (l.setIfInBounds i true) (a.put oi.dst v) w) : wpAnyU P md ops Q s S (n + 1) l a w :=
  wpAnyU.first hi (Region.noSelect_spec hs) hQ hws n l a w (Region.free_spec hi hf) (by simpa using hr) hy hS h

/-- each of rs comes up next -/
def AllReadyU (P : Program) (md : Region.Mode) (ops : Array Oper) (Q : Exit → Act → World → Prop) (s : Nat) (S : World → Prop) (n : Nat) (l : Array Bool) (a : Act) (w : World) (rs : List Nat) : Prop :=
  ∀ i ∈ rs, wpOp P ops Q i (fun b u => (i ≠ s → S u) ∧ wpAnyU P md ops Q s S n (l.setIfInBounds i true) b u) a w

theorem AllReadyU.nil {n : Nat} {l : Array Bool} {a : Act} {w : World} : AllReadyU P md ops Q s S n l a w [] := fun _ h => by cases h

theorem AllReadyU.cons {n : Nat} {l : Array Bool} {a : Act} {w : World} {i : Nat} {o : Oper} {rs : List Nat} (ho : ops[i]? = some o)
    (h : ∀ K : Act → World → Prop, Hid (∀ b u, S u → (S u → wpAnyU P md ops Q s S n (l.setIfInBounds i true) b u) → K b u) → if Region.wanted o (yielded ops a.tmps) = true then Oper.wp P o a w K Q else K (a.put o.dst undef) w)
    (hs : AllReadyU P md ops Q s S n l a w rs) : AllReadyU P md ops Q s S n l a w (i :: rs) := fun j hj => by
  rcases List.mem_cons.1 hj with e | hj
  · rw [e]
    exact wpOp_step ho (fun K hK => h K (Hid.intro (fun b u hS hW => hK b u ⟨fun _ => hS, hW hS⟩)))
  · exact hs j hj

/-- the store itself: nothing is asked behind it -/
theorem AllReadyU.last {n : Nat} {l : Array Bool} {a : Act} {w : World} {o : Oper} (ho : ops[s]? = some o)
    (h : ∀ K : Act → World → Prop, Hid (∀ b u, wpAnyU P md ops Q s S n (l.setIfInBounds s true) b u → K b u) → if Region.wanted o (yielded ops a.tmps) = true then Oper.wp P o a w K Q else K (a.put o.dst undef) w) :
    AllReadyU P md ops Q s S n l a w [s] := fun j hj => by
  rw [List.mem_singleton.1 hj]
  exact wpOp_step ho (fun K hK => h K (Hid.intro (fun b u hW => hK b u ⟨fun e => absurd rfl e, hW⟩)))

theorem wpAnyU_ready {rs : List Nat} {n : Nat} {l : Array Bool} {a : Act} {w : World} (hr : Region.ready md ops l = rs) (hne : rs ≠ [])
    (h : AllReadyU P md ops Q s S n l a w rs) : wpAnyU P md ops Q s S (n + 1) l a w := ⟨fun h0 => absurd (hr ▸ h0) hne, hr ▸ h⟩

theorem wpAnyU_done {l : Array Bool} {a : Act} {w : World} (hr : Region.ready md ops l = []) (h : Q .normal a w) : ∀ n, wpAnyU P md ops Q s S n l a w
  | 0 => ⟨hr, h⟩
  | _ + 1 => ⟨fun _ => h, by rw [hr]; simp⟩

theorem wp_region_until {id : Nat} {a : Act} {w : World} (s : Nat) (hm : P.follows .mixedOrders = true) (hS : S w.drew)
    (h : S w.drew → wpAnyU P .any ops Q s S ops.size (Array.replicate ops.size false) a w.drew) : (Code.region id ops true).wp P Q a w :=
  wp_region_any hm (wpAnyU.any _ _ _ _ (h hS))

end

end Go.Proofs.YtggbhggnemlpnaaGreat

namespace Go.Proofs.YtggbhggnemlpnaaGreat
open Go.RowKit

section
variable {P : Program} {ops : Array Oper} {Q : Exit → Act → World → Prop} {md : Region.Mode} {S : World → Prop}

theorem upon_round {o : Oper} {a : Act} {K : Act → World → Prop} {l n : Nat} {r : Result Next} (h : o.upon P a K Q r) : o.uponIn (Fence.wide.inRound l) n P a K Q r := by
  cases r with
  | ok m w =>
    cases m with
    | value v => exact h
    | skip => exact h
    | defer d => exact h
    | enter f args => exact ⟨(fun h => by cases h), CallsIn.inRound l (callsIn_wide.2 h)⟩
    | row s args => exact ⟨(fun h => by cases h), fun c cs _ => by
        obtain ⟨v, w', r, s⟩ := h c cs
        exact ⟨v, w', r, stepsIn_wide.2 s⟩⟩
    | _ => exact h.elim
  | halt x w =>
    cases x with
    | panic v => exact h
    | _ => exact h.elim

theorem op_round {i : Nat} {a : Act} {w : World} {K : Act → World → Prop} {l n : Nat} (hnd : ∀ (i : Nat) o, ops[i]? = some o → ∀ c, o.op ≠ .defer c) (hno : ¬ LetsOut Q) (h : wpOp P ops Q i K a w) : wpOpIn (Fence.wide.inRound l) n P ops Q i K a w := by
  unfold wpOp at h
  unfold wpOpIn
  split
  · rename_i hn
    simp only [hn] at h
    exact h
  · rename_i o ho
    simp only [ho] at h
    split
    · rename_i hw
      simp only [hw, if_true] at h
      rcases h with h | ⟨_, h⟩
      · refine ⟨fun _ _ => trivial, ?_⟩
        rw [Oper.semAt_plain _ _ _ (hnd i o ho)]
        exact upon_round h
      · exact absurd h hno
    · rename_i hw
      simp only [hw] at h
      exact ⟨fun _ _ => trivial, h⟩

theorem any_round {l n : Nat} (hnd : ∀ (i : Nat) o, ops[i]? = some o → ∀ c, o.op ≠ .defer c) (hno : ¬ LetsOut Q) : ∀ (fuel : Nat) (listed : Array Bool) (a : Act) (w : World), wpAny P md ops Q fuel listed a w → wpAnyIn (Fence.wide.inRound l) n P md ops Q fuel listed a w
  | 0, _, _, _, h => h
  | fuel + 1, _, _, _, h => ⟨h.1, fun i hi => op_round hnd hno (wpOp_mono (fun b u k => any_round hnd hno fuel _ b u k) (h.2 i hi))⟩

/-- no call is put off -/
def noDefer (ops : Array Oper) : Bool := ops.all (fun o => match o.op with | .defer _ => false | _ => true)

theorem noDefer_at (h : noDefer ops = true) (i : Nat) (o : Oper) (ho : ops[i]? = some o) (c : Call) : o.op ≠ .defer c := by
  intro e
  unfold noDefer at h
  rw [Array.all_eq_true] at h
  obtain ⟨hi, rfl⟩ := Array.getElem?_eq_some_iff.1 ho
  have := h i hi
  rw [e] at this
  cases this

theorem wpIn_until {id l n : Nat} {a : Act} {w : World} (s : Nat) (hm : P.follows .mixedOrders = true) (hnd : noDefer ops = true) (hS : S w.drew)
    (h : S w.drew → wpAnyU P .any ops (fun e a' w' => e = Exit.normal ∧ Q Exit.normal a' w') s S ops.size (Array.replicate ops.size false) a w.drew) : (Code.region id ops true).wpIn (Fence.wide.inRound l) n P Q a w :=
  wpIn_mono (wpIn_region_any hm (any_round (noDefer_at hnd) (by rintro ⟨_, _, h, _⟩; cases h) _ _ _ _ (wpAnyU.any _ _ _ _ (h hS)))) (by rintro e a' w' ⟨rfl, h⟩; exact h)

theorem wpIn_held {id l n : Nat} {a : Act} {w : World} (hm : P.follows .mixedOrders = true) (hnd : noDefer ops = true) (hS : S w.drew)
    (h : S w.drew → wpAnyH P .any ops (fun e a' w' => e = Exit.normal ∧ Q Exit.normal a' w') S ops.size (Array.replicate ops.size false) a w.drew) : (Code.region id ops true).wpIn (Fence.wide.inRound l) n P Q a w :=
  wpIn_mono (wpIn_region_any hm (any_round (noDefer_at hnd) (by rintro ⟨_, _, h, _⟩; cases h) _ _ _ _ (wpAny_of_held _ _ _ _ (h hS)))) (by rintro e a' w' ⟨rfl, h⟩; exact h)

end

theorem KeepsFrom.of_cells {B : Nat} {w w' : World} {row : Option Nat} (hg : w.grownBy w' row) (hr : ∀ r, row = some r → ∃ cs ty, w.heap[r]? = some (Obj.cells cs ty)) : KeepsFrom B w w' :=
  ⟨hg.size, fun k o _ ho hc => (hg.block k (Array.getElem?_eq_some_iff.1 ho).1 (fun e => by
    obtain ⟨cs, ty, h1⟩ := hr k e.symm
    rw [ho] at h1
    cases h1
    cases hc)).trans ho⟩
theorem KeepsFrom.of_below {B : Nat} {w w' : World} (h : Below w.heap.size w w') : KeepsFrom B w w' := ⟨h.size, fun k _ _ ho _ => (h.block k (Array.getElem?_eq_some_iff.1 ho).1).trans ho⟩

end Go.Proofs.YtggbhggnemlpnaaGreat

namespace Go.Proofs.YtggbhggnemlpnaaGreat
open Go.RowKit

theorem copy_name {x : Flt} (hv : validI x = true) {k : Nat} {c : Cpy} (h : x.copies[k]? = some c) : P.nameOk c.name = true := by
  unfold validI at hv
  simp only [Bool.and_eq_true, fewOk, ordOk, berthsOk, copiesOk, all_iff, decide_eq_true_eq] at hv
  obtain ⟨_, ⟨_, h1⟩, _⟩ := hv
  exact ((asc_iff _ _).1 h1 k c h).1

theorem name_20 {s : ByteArray} (h : P.nameOk s = true) : s.size ≤ 20 := by
  unfold P.nameOk at h
  simp only [Bool.and_eq_true, decide_eq_true_eq] at h
  omega

theorem sum_le {l : List ByteArray} {m : Nat} (h : ∀ s ∈ l, s.size ≤ m) : (l.map ByteArray.size).sum ≤ m * l.length := by
  induction l with
  | nil => simp
  | cons a r ih =>
    have h1 := h a (by simp)
    have h2 := ih (fun s hs => h s (by simp [hs]))
    simp only [List.map_cons, List.sum_cons, List.length_cons]
    have : m * (r.length + 1) = m * r.length + m := Nat.mul_succ _ _
    omega

theorem oneS {w : World} {sb : Nat} {v : Value} (h : w.cell? ⟨sb, 0, none⟩ = some v) : ∀ j u, [v][j]? = some u → w.cell? ((⟨sb, 0, none⟩ : Addr).add j) = some u := by
  intro j u hu
  cases j with
  | zero => simp at hu; subst hu; simpa [Addr.add] using h
  | succ j => simp at hu

/-- a list of texts in a row -/
abbrev stV (l : List ByteArray) : List Value := l.map Value.string

/-- a row of texts is a slice of texts -/
theorem sliceC_of_strs {w : World} {base g cap lo : Nat} {e : TypeId} {ms : List ByteArray} (h : w.ownsRow base e 1 (.slice (some ⟨g, 0, none⟩) ms.length cap) ms.length (ms.map Value.string)) (hz : ∀ s ∈ ms, s.size ≤ maxLen) (hm : ms.length ≤ maxLen) (hlo : lo ≤ base) : SliceC StrC 1 lo w (some ⟨g, 0, none⟩) ms := by
  have hg := h.lt g rfl
  refine ⟨hm, .inr ⟨g, 0, rfl, ⟨by omega, fun _ p => h.frozenAt p⟩, hg.2, fun j x hj => ⟨?_, hz x (List.mem_of_getElem? hj)⟩⟩⟩
  have hlt := lt_of_some hj
  have := h.cellAt (j * 1 + 0) (by simp; omega)
  simp only [Nat.mul_one, Nat.add_zero, List.getElem?_map, hj, Option.map_some] at this
  simpa using this

theorem row_strs {w : World} {base : Nat} {v : Value} {l : List ByteArray} (h : w.ownsRow base 9 1 v l.length (stV l)) (hz : ∀ s ∈ l, s.size ≤ maxLen) (hm : l.length ≤ maxLen) : ∃ a c, v = .slice a l.length c ∧ SliceC StrC 1 base w a l := by
  rcases h.2 with ⟨hv, h0⟩ | ⟨g, cap, cur, hv, hb, hg, _⟩
  · have : l = [] := List.length_eq_zero_iff.1 h0
    subst this
    exact ⟨none, 0, hv, SliceC.nil⟩
  · subst hv
    exact ⟨_, cap, rfl, sliceC_of_strs h hz hm (Nat.le_refl _)⟩

/-- put into a list behind all that are ahead -/
def insQ (lt : Nat → Nat → Bool) (l : List Nat) (a : Nat) : List Nat := l.takeWhile (fun b => lt b a) ++ a :: l.dropWhile (fun b => lt b a)

theorem insQ_perm (lt : Nat → Nat → Bool) (l : List Nat) (a : Nat) : (insQ lt l a).Perm (l ++ [a]) := by
  unfold insQ
  have h : (l.takeWhile (fun b => lt b a) ++ a :: l.dropWhile (fun b => lt b a)).Perm (a :: (l.takeWhile (fun b => lt b a) ++ l.dropWhile (fun b => lt b a))) := List.perm_middle
  rw [List.takeWhile_append_dropWhile] at h
  exact h.trans (List.perm_append_singleton a l).symm

theorem drop_all {lt : Nat → Nat → Bool} (o : LtO lt) (a : Nat) : ∀ (l : List Nat), l.Pairwise (fun x y => lt y x = false) → ∀ d ∈ l.dropWhile (fun b => lt b a), lt d a = false
  | [], _, d, hd => by cases hd
  | c :: r, hp, d, hd => by
    rw [List.dropWhile_cons] at hd
    rw [List.pairwise_cons] at hp
    by_cases h : lt c a = true
    · rw [if_pos h] at hd
      exact drop_all o a r hp.2 d hd
    · rw [if_neg h] at hd
      have hc : lt c a = false := by simpa using h
      rcases List.mem_cons.1 hd with rfl | hr
      · exact hc
      · exact o.ntr (hp.1 d hr) hc

theorem take_all (lt : Nat → Nat → Bool) (a : Nat) : ∀ (l : List Nat), ∀ d ∈ l.takeWhile (fun b => lt b a), lt d a = true
  | [], d, hd => by cases hd
  | c :: r, d, hd => by
    rw [List.takeWhile_cons] at hd
    by_cases h : lt c a = true
    · rw [if_pos h] at hd
      rcases List.mem_cons.1 hd with rfl | hr
      · exact h
      · exact take_all lt a r d hr
    · rw [if_neg h] at hd
      cases hd

theorem insQ_asc {lt : Nat → Nat → Bool} (o : LtO lt) {l : List Nat} (h : l.Pairwise (fun x y => lt y x = false)) (a : Nat) : (insQ lt l a).Pairwise (fun x y => lt y x = false) := by
  unfold insQ
  have hs := h
  rw [← List.takeWhile_append_dropWhile (p := fun b => lt b a) (l := l), List.pairwise_append] at hs
  rw [List.pairwise_append, List.pairwise_cons]
  refine ⟨hs.1, ⟨fun d hd => drop_all o a l h d hd, hs.2.1⟩, fun b hb d hd => ?_⟩
  rcases List.mem_cons.1 hd with rfl | hr
  · exact o.asym (take_all lt d l b hb)
  · exact hs.2.2 b hb d hr

/-- the queue of the places up to one -/
def qTo (x : Flt) : Nat → List Nat
  | 0 => []
  | k + 1 => if wtB x k = true then insQ (ltF (cfQ x)) (qTo x k) k else qTo x k

theorem qTo_perm (x : Flt) : ∀ k, (qTo x k).Perm (wtTo x k)
  | 0 => List.Perm.refl _
  | k + 1 => by
    have hw : wtTo x (k + 1) = wtTo x k ++ if wtB x k = true then [k] else [] := by
      unfold wtTo
      rw [List.range_succ, List.filter_append]
      by_cases h : wtB x k = true <;> simp [h]
    rw [hw]
    show (if wtB x k = true then _ else _ : List Nat).Perm _
    by_cases h : wtB x k = true
    · rw [if_pos h, if_pos h]
      exact (insQ_perm _ _ _).trans ((qTo_perm x k).append_right _)
    · rw [if_neg h, if_neg h, List.append_nil]
      exact qTo_perm x k

theorem qTo_asc {x : Flt} (o : LtO (ltF (cfQ x))) : ∀ k, (qTo x k).Pairwise (fun a b => ltF (cfQ x) b a = false)
  | 0 => List.Pairwise.nil
  | k + 1 => by
    show (if wtB x k = true then _ else _ : List Nat).Pairwise _
    by_cases h : wtB x k = true
    · rw [if_pos h]
      exact insQ_asc o (qTo_asc o k) k
    · rw [if_neg h]
      exact qTo_asc o k

theorem qTo_one {x : Flt} (o : LtO (ltF (cfQ x))) {l : List Nat} (h1 : l.Perm (wtTo x x.copies.length)) (h2 : l.Pairwise (fun a b => ltF (cfQ x) b a = false)) : l = qTo x x.copies.length :=
  asc_one o (h1.trans (qTo_perm x _).symm) h2 (qTo_asc o _)

theorem qTo_lt {x : Flt} {k i : Nat} (h : i ∈ qTo x k) : i < k := wtTo_lt ((qTo_perm x k).subset h)
theorem qTo_len (x : Flt) (k : Nat) : (qTo x k).length ≤ k := by rw [(qTo_perm x k).length_eq]; exact wtTo_len x k

/-- the name of a place's copy -/
def nmQ (x : Flt) (i : Nat) : ByteArray := match x.copies[i]? with
  | some c => c.name
  | none => ⟨#[]⟩
theorem nmQ_at {x : Flt} {i : Nat} {c : Cpy} (h : x.copies[i]? = some c) : nmQ x i = c.name := by unfold nmQ; rw [h]

/-- the queue: the names of the copies that wait, in their order -/
def queL (x : Flt) : List ByteArray := if validI x = true then (qTo x x.copies.length).map (nmQ x) else []

theorem queL_mem {x : Flt} {s : ByteArray} {k : Nat} (hk : k ≤ x.copies.length) (h : s ∈ (qTo x k).map (nmQ x)) : ∃ (i : Nat) (c : Cpy), x.copies[i]? = some c ∧ c.name = s := by
  obtain ⟨i, hi, rfl⟩ := List.mem_map.1 h
  have := qTo_lt hi
  exact ⟨i, x.copies[i], List.getElem?_eq_getElem (by omega), (nmQ_at (List.getElem?_eq_getElem (by omega))).symm⟩

theorem queL_small (x : Flt) : wS ByteArray.size (queL x) ≤ 1048576 ∧ (queL x).length ≤ 60 ∧ ∀ s ∈ queL x, s.size ≤ 20 := by
  unfold queL
  split
  · rename_i hv
    have h60 := (valid_parts hv).2.1
    have hl := qTo_len x x.copies.length
    have hs : ∀ s ∈ (qTo x x.copies.length).map (nmQ x), s.size ≤ 20 := fun s hs => by
      obtain ⟨i, c, hc, rfl⟩ := queL_mem (Nat.le_refl _) hs
      exact name_20 (copy_name hv hc)
    have := sum_le hs
    have hm : ((qTo x x.copies.length).map (nmQ x)).length = (qTo x x.copies.length).length := by simp
    exact ⟨by unfold wS; omega, by omega, hs⟩
  · exact ⟨by simp [wS], by simp, fun s hs => by cases hs⟩

end Go.Proofs.YtggbhggnemlpnaaGreat
