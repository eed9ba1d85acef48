/-
  Several texts in one: Hpp, Svc.
-/
import Derived.Test.YtggbhggnemlpnaaGreatShp
namespace Go.Proofs.YtggbhggnemlpnaaGreat
open Go.RowKit

/-- a strict order of all numbers, in which any two that differ are apart -/
structure LtO (lt : Nat → Nat → Bool) : Prop where
  irr : ∀ a, lt a a = false
  tr : ∀ a b c, lt a b = true → lt b c = true → lt a c = true
  tot : ∀ a b, lt a b = false → lt b a = false → a = b

theorem LtO.asym {lt : Nat → Nat → Bool} (o : LtO lt) {a b : Nat} (h : lt a b = true) : lt b a = false := by
  cases h2 : lt b a with
  | false => rfl
  | true => have := o.tr a b a h h2; rw [o.irr] at this; cases this

/-- no less than what is no less -/
theorem LtO.ntr {lt : Nat → Nat → Bool} (o : LtO lt) {a b c : Nat} (h1 : lt a b = false) (h2 : lt b c = false) : lt a c = false := by
  cases h3 : lt a c with
  | false => rfl
  | true =>
    by_cases e : c = b
    · subst e; rw [h1] at h3; cases h3
    · cases h4 : lt c b with
      | true => have := o.tr a c b h3 h4; rw [h1] at this; cases this
      | false => exact absurd (o.tot c b h4 h2) e

def hAt (l : List Nat) (i : Nat) : Nat := l.getD i 0
theorem hAt_some {l : List Nat} {i a : Nat} (h : l[i]? = some a) : hAt l i = a := by unfold hAt; rw [List.getD_eq_getElem?_getD, h]; rfl
theorem hAt_get {l : List Nat} {i : Nat} (h : i < l.length) : l[i]? = some (hAt l i) := by
  rw [List.getElem?_eq_getElem h, hAt_some (List.getElem?_eq_getElem h)]
theorem hAt_mem {l : List Nat} {i : Nat} (h : i < l.length) : hAt l i ∈ l := List.mem_of_getElem? (hAt_get h)

/-- two that change places -/
def hSw (l : List Nat) (i j : Nat) : List Nat := (l.set i (hAt l j)).set j (hAt l i)
theorem hSw_len (l : List Nat) (i j : Nat) : (hSw l i j).length = l.length := by simp [hSw]
theorem hSw_at {l : List Nat} {i j k : Nat} (hi : i < l.length) (hj : j < l.length) (_hk : k < l.length) : hAt (hSw l i j) k = if k = j then hAt l i else if k = i then hAt l j else hAt l k := by
  unfold hSw
  by_cases e1 : k = j
  · subst e1
    rw [if_pos rfl]
    apply hAt_some
    rw [List.getElem?_set_self (by simpa using hj)]
  · rw [if_neg e1]
    have h1 : ((l.set i (hAt l j)).set j (hAt l i))[k]? = (l.set i (hAt l j))[k]? := List.getElem?_set_ne (by omega)
    by_cases e2 : k = i
    · subst e2
      rw [if_pos rfl]
      apply hAt_some
      rw [h1, List.getElem?_set_self hi]
    · rw [if_neg e2]
      apply hAt_some
      rw [h1, List.getElem?_set_ne (by omega)]
      exact hAt_get _hk
theorem hSw_perm {l : List Nat} {i j : Nat} (hi : i < l.length) (hj : j < l.length) : (hSw l i j).Perm l := by
  unfold hSw
  have h1 : hAt l j = l[j] := hAt_some (List.getElem?_eq_getElem hj)
  have h2 : hAt l i = l[i] := hAt_some (List.getElem?_eq_getElem hi)
  rw [h1, h2]
  exact List.set_set_perm hi hj

/-- each is no less than what is above it -/
def Heap (lt : Nat → Nat → Bool) (l : List Nat) : Prop := ∀ i, 0 < i → i < l.length → lt (hAt l i) (hAt l ((i - 1) / 2)) = false
/-- a heap, but that the one at p may be too far down -/
def HUp (lt : Nat → Nat → Bool) (l : List Nat) (p : Nat) : Prop := (∀ i, 0 < i → i < l.length → i ≠ p → lt (hAt l i) (hAt l ((i - 1) / 2)) = false) ∧ ∀ i, 0 < i → i < l.length → (i - 1) / 2 = p → 0 < p → lt (hAt l i) (hAt l ((p - 1) / 2)) = false
/-- a heap, but that the one at p may be too far up -/
def HDn (lt : Nat → Nat → Bool) (l : List Nat) (p : Nat) : Prop := (∀ i, 0 < i → i < l.length → (i - 1) / 2 ≠ p → lt (hAt l i) (hAt l ((i - 1) / 2)) = false) ∧ ∀ i, 0 < i → i < l.length → (i - 1) / 2 = p → 0 < p → lt (hAt l i) (hAt l ((p - 1) / 2)) = false

theorem HUp.stop0 {lt : Nat → Nat → Bool} {l : List Nat} (h : HUp lt l 0) : Heap lt l := fun i h0 hi => h.1 i h0 hi (by omega)
theorem HUp.stop {lt : Nat → Nat → Bool} {l : List Nat} {p : Nat} (h : HUp lt l p) (hs : lt (hAt l p) (hAt l ((p - 1) / 2)) = false) : Heap lt l := fun i h0 hi => by
  by_cases e : i = p
  · subst e; exact hs
  · exact h.1 i h0 hi e
theorem HUp.step {lt : Nat → Nat → Bool} (o : LtO lt) {l : List Nat} {p : Nat} (h : HUp lt l p) (hp : p < l.length) (h0 : 0 < p) (hs : lt (hAt l p) (hAt l ((p - 1) / 2)) = true) : HUp lt (hSw l p ((p - 1) / 2)) ((p - 1) / 2) := by
  obtain ⟨q, hq⟩ : ∃ q, q = (p - 1) / 2 := ⟨_, rfl⟩
  rw [← hq] at hs ⊢
  have hql : q < l.length := by omega
  constructor
  · intro i hi0 hil hne
    rw [hSw_len] at hil
    obtain ⟨r, hr⟩ : ∃ r, r = (i - 1) / 2 := ⟨_, rfl⟩
    rw [← hr, hSw_at hp hql hil, hSw_at hp hql (by omega)]
    rw [if_neg hne]
    by_cases e1 : i = p
    · subst e1
      rw [if_pos rfl, if_pos (by omega)]
      exact o.asym hs
    · rw [if_neg e1]
      by_cases e2 : r = q
      · rw [if_pos e2]
        have h1 := h.1 i hi0 hil e1
        rw [← hr, e2] at h1
        exact o.ntr h1 (o.asym hs)
      · rw [if_neg e2]
        by_cases e3 : r = p
        · rw [if_pos e3]
          have := h.2 i hi0 hil (by omega) h0
          rw [← hq] at this
          exact this
        · rw [if_neg e3]
          have := h.1 i hi0 hil e1
          rw [← hr] at this
          exact this
  · intro i hi0 hil hpar hq0
    rw [hSw_len] at hil
    obtain ⟨r, hr⟩ : ∃ r, r = (q - 1) / 2 := ⟨_, rfl⟩
    rw [← hr, hSw_at hp hql hil, hSw_at hp hql (by omega), if_neg (show ¬ i = q by omega), if_neg (show ¬ r = q by omega), if_neg (show ¬ r = p by omega)]
    have hqr := h.1 q hq0 hql (by omega)
    rw [← hr] at hqr
    by_cases e1 : i = p
    · rw [if_pos e1]; exact hqr
    · rw [if_neg e1]
      have h1 := h.1 i hi0 hil e1
      rw [hpar] at h1
      exact o.ntr h1 hqr

theorem HUp.of_snoc {lt : Nat → Nat → Bool} {l : List Nat} (h : Heap lt l) (a : Nat) : HUp lt (l ++ [a]) l.length := by
  have ha : ∀ i, i < l.length → hAt (l ++ [a]) i = hAt l i := fun i hi => hAt_some (by rw [List.getElem?_append_left hi]; exact hAt_get hi)
  constructor
  · intro i h0 hi hne
    rw [List.length_append] at hi
    simp at hi
    rw [ha i (by omega), ha _ (by omega)]
    exact h i h0 (by omega)
  · intro i h0 hi hpar _
    rw [List.length_append] at hi
    simp at hi
    omega

theorem HDn.step {lt : Nat → Nat → Bool} (o : LtO lt) {l : List Nat} {p k : Nat} (h : HDn lt l p) (hk : k < l.length) (hk0 : 0 < k) (hkp : (k - 1) / 2 = p) (hl : ∀ i, 0 < i → i < l.length → (i - 1) / 2 = p → lt (hAt l i) (hAt l k) = false) (hs : lt (hAt l k) (hAt l p) = true) : HDn lt (hSw l k p) k := by
  have hp : p < l.length := by omega
  constructor
  · intro i hi0 hil hne
    rw [hSw_len] at hil
    obtain ⟨r, hr⟩ : ∃ r, r = (i - 1) / 2 := ⟨_, rfl⟩
    rw [← hr] at hne ⊢
    rw [hSw_at hk hp hil, hSw_at hk hp (by omega)]
    by_cases e1 : r = p
    · rw [if_pos e1, if_neg (show ¬ i = p by omega)]
      by_cases e2 : i = k
      · rw [if_pos e2]; exact o.asym hs
      · rw [if_neg e2]
        exact hl i hi0 hil (by omega)
    · rw [if_neg e1, if_neg hne]
      by_cases e2 : i = p
      · rw [if_pos e2]
        have h1 := h.2 k hk0 hk hkp (by omega)
        rw [← e2, ← hr] at h1
        exact h1
      · rw [if_neg e2, if_neg (show ¬ i = k by omega)]
        have := h.1 i hi0 hil (by omega)
        rw [← hr] at this
        exact this
  · intro i hi0 hil hpar _
    rw [hSw_len] at hil
    rw [hkp, hSw_at hk hp hil, hSw_at hk hp hp, if_pos rfl, if_neg (show ¬ i = p by omega), if_neg (show ¬ i = k by omega)]
    have h1 := h.1 i hi0 hil (by omega)
    rw [hpar] at h1
    exact h1

theorem HDn.stop {lt : Nat → Nat → Bool} {l : List Nat} {p : Nat} (h : HDn lt l p) (hs : ∀ i, 0 < i → i < l.length → (i - 1) / 2 = p → lt (hAt l i) (hAt l p) = false) : Heap lt l := fun i h0 hi => by
  by_cases e : (i - 1) / 2 = p
  · rw [e]; exact hs i h0 hi e
  · exact h.1 i h0 hi e

/-- the one on top is no greater than any other -/
theorem Heap.top {lt : Nat → Nat → Bool} (o : LtO lt) {l : List Nat} (h : Heap lt l) : ∀ i, i < l.length → lt (hAt l i) (hAt l 0) = false := by
  intro i
  induction i using Nat.strongRecOn with
  | ind i ih =>
    intro hi
    by_cases e : i = 0
    · subst e; exact o.irr _
    · exact o.ntr (h i (by omega) hi) (ih ((i - 1) / 2) (by omega) (by omega))

/-- the last one laid on top, the list cut -/
def hCut (l : List Nat) : List Nat := (l.set 0 (hAt l (l.length - 1))).take (l.length - 1)
theorem hCut_len (l : List Nat) : (hCut l).length = l.length - 1 := by simp [hCut]
theorem hCut_at {l : List Nat} {i : Nat} (hi : i < l.length - 1) (h0 : 0 < i) : hAt (hCut l) i = hAt l i := by
  apply hAt_some
  unfold hCut
  rw [List.getElem?_take_of_lt hi, List.getElem?_set_ne (by omega)]
  exact hAt_get (by omega)
theorem HDn.of_cut {lt : Nat → Nat → Bool} {l : List Nat} (h : Heap lt l) : HDn lt (hCut l) 0 := by
  constructor
  · intro i h0 hi hne
    rw [hCut_len] at hi
    rw [hCut_at hi h0, hCut_at (by omega) (by omega)]
    exact h i h0 (by omega)
  · intro i _ _ _ h9
    omega
theorem hCut_perm {l : List Nat} (hl : 0 < l.length) : (hAt l 0 :: hCut l).Perm l := by
  cases l with
  | nil => simp at hl
  | cons a t =>
    have h0 : hAt (a :: t) 0 = a := rfl
    rw [h0]
    refine List.Perm.cons a ?_ |>.trans (List.Perm.refl _)
    unfold hCut
    cases ht : t.reverse with
    | nil =>
      have : t = [] := by simpa using ht
      subst this
      simp
    | cons b r =>
      have ht2 : t = r.reverse ++ [b] := by
        have := congrArg List.reverse ht
        simpa using this
      subst ht2
      have e1 : hAt (a :: (r.reverse ++ [b])) ((a :: (r.reverse ++ [b])).length - 1) = b := by
        apply hAt_some
        simp
      rw [e1]
      simp only [List.set_cons_zero, List.length_cons, List.length_append, List.length_nil, Nat.add_sub_cancel]
      rw [show (b :: (r.reverse ++ [b])).take (r.reverse.length + (0 + 1)) = b :: r.reverse by simp]
      exact (List.perm_append_comm (l₁ := [b]) (l₂ := r.reverse))

/-- what comes out in the order of a heap is the one list that is in order -/
theorem asc_one {lt : Nat → Nat → Bool} (o : LtO lt) : ∀ {a b : List Nat}, a.Perm b → a.Pairwise (fun x y => lt y x = false) → b.Pairwise (fun x y => lt y x = false) → a = b
  | [], b, h, _, _ => (List.nil_perm.1 h).symm
  | x :: a, [], h, _, _ => by have := h.length_eq; simp at this
  | x :: a, y :: b, h, h1, h2 => by
    have e : x = y := by
      rw [List.pairwise_cons] at h1 h2
      rcases List.mem_cons.1 (h.subset (List.mem_cons_self (a := x) (l := a))) with e1 | e1
      · exact e1
      · rcases List.mem_cons.1 (h.symm.subset (List.mem_cons_self (a := y) (l := b))) with e2 | e2
        · exact e2.symm
        · exact o.tot x y (h2.1 x e1) (h1.1 y e2) |> fun h => h
    subst e
    rw [List.pairwise_cons] at h1 h2
    rw [asc_one o (List.Perm.cons_inv h) h1.2 h2.2]

end Go.Proofs.YtggbhggnemlpnaaGreat

namespace Go.Proofs.YtggbhggnemlpnaaGreat
open Go.RowKit

structure Svc where
  name : ByteArray
  spare : Int

def wSvc (x : Svc) : Nat := x.name.size

/-- what its cells hold -/
def SvcC : Make Svc := fun _ _ f x => f 0 = some (.string x.name) ∧ f 1 = some (.int .i64 x.spare) ∧ x.name.size ≤ maxLen

theorem SvcC.holds : Holds SvcC 2 := by
  rintro lo lo' w w' f g x h _ _ ⟨q0, q1, z0⟩
  exact ⟨(h 0 (by omega)).trans q0, (h 1 (by omega)).trans q1, z0⟩

set_option maxHeartbeats 1000000 in
theorem szSvc_any (x : Svc)  (L : Int) (w : World) (z0 : x.name.size ≤ maxLen)  (h0 : 0 ≤ L) (h1 : L ≤ 1048576) :
    Calls Tryz.prog 45 #[.agg #[.string x.name, .int .i64 x.spare], .int .i64 L] w fun e w' => e = .returned (.int .i64 (szR (wSvc x) L)) ∧ Below w.heap.size w w' := by
  unfold maxLen at z0
  have HW : Hid (wSvc x = x.name.size) := rfl
  generalize wSvc x = W at *
  by_cases d0 : L - (x.name.size : Nat) < 0
  · go_enter Tryz.func45, Tryz.ntmps45
    go_wp2_with fail
    go_ret
    exact ⟨ret_int (by have := HW.out; unfold szR; rw [if_neg (by omega)]), by go_grown⟩
  · skip
    go_enter Tryz.func45, Tryz.ntmps45
    go_wp2_with fail
    go_ret
    exact ⟨ret_int (by have := HW.out; unfold szR; rw [if_pos (by omega)]; omega), by go_grown⟩

theorem isz_Svc : (Tryz.prog.info? 87).map (·.size) = some 2 := by kernel_rfl

set_option maxHeartbeats 2000000 in
theorem toSvc_any (x : Svc) (w : World) :
    Calls Tryz.prog 57 #[.agg #[.string x.name, .int .i64 x.spare]] w fun e w' => e = .returned (.agg #[.string x.name, .int .i64 x.spare]) ∧ Below w.heap.size w w' := by
  go_enter Tryz.func57, Tryz.ntmps57
  go_wp2
  go_returns
  exact ⟨rfl, by go_grown⟩

set_option maxHeartbeats 2000000 in
theorem eqSvc_any (x : Svc) (w : World) :
    Calls Tryz.prog 68 #[.agg #[.string x.name, .int .i64 x.spare], .agg #[.string x.name, .int .i64 x.spare]] w fun e w' => e = .returned (.bool true) ∧ Below w.heap.size w w' := by
  go_enter Tryz.func68, Tryz.ntmps68
  go_wp2
  go_ret
  exact ⟨rfl, by go_grown⟩

set_option maxHeartbeats 1000000 in
theorem szSvcS_any (xs : List Svc) (a : Option Addr) (cap lo : Nat) (L : Int) (w : World) (hin : SliceC SvcC 2 lo w a xs) (h0 : 0 ≤ L) (h1 : L ≤ 1048576) :
    Calls Tryz.prog 22 #[.slice a xs.length cap, .int .i64 L] w fun e w' => e = .returned (.int .i64 (szR (wS wSvc xs) L)) ∧ Below w.heap.size w w' := by
  have hlen := hin.1
  unfold maxLen at hlen
  have HI : Hid (SliceC SvcC 2 lo w a xs) := hin
  clear hin
  have HW : Hid (wS wSvc xs = xs.length + (xs.map wSvc).sum) := rfl
  generalize wS wSvc xs = W at *
  by_cases c1 : L - xs.length < 0
  · go_enter Tryz.func22, Tryz.ntmps22
    go_wp2_with fail
    go_ret
    exact ⟨ret_int (by have := HW.out; unfold szR; rw [if_neg (by omega)]), Below.refl _ _⟩
  · go_enter Tryz.func22, Tryz.ntmps22
    go_wp2_with fail
    go_loopw [1, 5] (fun l i wr => ∃ (k : Nat) (M : Int), k ≤ xs.length ∧ i = .int .i64 k ∧ l = .int .i64 M ∧ 0 ≤ M ∧ M ≤ 1048576 ∧ Hid (M = L - xs.length - ((xs.take k).map wSvc).sum) ∧ Below w.heap.size w wr) (fun _ i _ => xs.length - (intOf i).toNat)
    case atStart => exact ⟨0, _, Nat.zero_le _, rfl, rfl, by omega, by omega, by show _ = _; simp, Below.refl _ _⟩
    case round =>
      obtain ⟨k, M, hk, rfl, rfl, hM0, hM1, hM, hbel⟩ := hrel
      by_cases hlt : k < xs.length
      · obtain ⟨x, hx⟩ : ∃ x, xs[k]? = some x := ⟨xs[k], List.getElem?_eq_getElem hlt⟩
        obtain ⟨b, o, rfl, _, _, hc⟩ := (HI.out.below SvcC.holds hbel (Nat.le_refl _)).at hx
        obtain ⟨q0, q1, z0⟩ := hc
        simp only [Nat.add_zero] at q0 q1
        have HX : Hid (((xs.take (k + 1)).map wSvc).sum = ((xs.take k).map wSvc).sum + wSvc x) := sum_take _ _ _ _ hx
        have HY : Hid (((xs.take (k + 1)).map wSvc).sum ≤ (xs.map wSvc).sum) := sum_take_le _ _ _
        have CT := szSvc_any x M wr z0 hM0 hM1
        have HCT := Hid.intro CT
        clear hx CT
        by_cases hr : (wSvc x : Int) ≤ M
        · rw [szR_pos hr] at HCT
          generalize hV : wSvc x = V at *
          clear hV
          go_wp2_with fail
          refine HCT.out.mono ?_
          rintro e w1 ⟨rfl, hb1⟩
          clear HCT
          go_wp2_with fail
          go_roundw
          case rel =>
            refine ⟨k + 1, M - V, by omega, by go_num, rfl, by omega, by omega, ?_, hbel.trans (hb1.mono hbel.size)⟩
            have := hM.out
            have := HX.out
            show _ = _
            omega
          case measure => simp [intOf]; omega
        · rw [szR_neg hr] at HCT
          generalize hV : wSvc x = V at *
          clear hV
          go_wp2_with fail
          refine HCT.out.mono ?_
          rintro e w1 ⟨rfl, hb1⟩
          clear HCT
          go_wp2_with fail
          go_ret
          refine ⟨ret_int ?_, hbel.trans (hb1.mono hbel.size)⟩
          have := HW.out
          have := HX.out
          have := HY.out
          have := hM.out
          unfold szR
          rw [if_neg (by omega)]
      · go_wp2_with fail
        go_ret
        refine ⟨ret_int ?_, hbel⟩
        have hke : k = xs.length := by omega
        subst hke
        have h3 := hM.out
        have h4 := HW.out
        simp only [List.take_length] at h3
        unfold szR
        rw [if_pos (by omega)]
        omega

theorem info_Svc : (Tryz.prog.info? 87).map (fun i => (i.zero, i.size, i.bytes)) = some (some (.agg #[.string ⟨#[]⟩, .int .i64 0]), 2, 24) := by kernel_rfl

set_option maxHeartbeats 2000000 in
theorem toSvcS_any (xs : List Svc) (a : Option Addr) (cap lo : Nat) (w : World) (hin : SliceC SvcC 2 lo w a xs) (hsm : wS wSvc xs ≤ 1048576) :
    Calls Tryz.prog 27 #[.slice a xs.length cap] w fun e w' => ∃ g, e = .returned (.slice (some ⟨g, 0, none⟩) xs.length xs.length) ∧ w.heap.size ≤ g ∧ SliceC SvcC 2 w.heap.size w' (some ⟨g, 0, none⟩) xs ∧ Below w.heap.size w w' := by
  obtain ⟨i0, hi, hz0, hz1, hz2⟩ := info_parts info_Svc
  have hlen : xs.length ≤ 1048576 := Nat.le_trans wS_len hsm
  have HI : Hid (SliceC SvcC 2 lo w a xs) := hin
  have HSM : Hid (wS wSvc xs ≤ 1048576) := hsm
  clear hin hsm
  go_enter Tryz.func27, Tryz.ntmps27
  go_wp2_with (at_make; refine wpList_make_full _ rfl _ _ 31 rfl w.heap.size 87 i0 _ 2 Tryz.underlying31 hi hz0 hz1 .i64 .i64 _ _ xs.length rfl rfl rfl rfl (by rw [hz2]; omega) (by unfold maxLen; omega) (Nat.le_refl _) ?_; intro w1 hown hgrow)
  have hb1 : Below w.heap.size w w1 := (Below.refl _ _).grown hgrow (Nat.le_refl _) (fun k h => by cases h)
  have hsz1 := (hown.lt w.heap.size rfl).2
  generalize hX : (madeCells _ (xs.length * 2)).toList = xs0 at hown
  clear hX hgrow hi hz0 hz1 hz2
  go_loopw [4] (fun i wr => ∃ (k : Nat) (cs : List Value), k ≤ xs.length ∧ i = .int .i64 k ∧ w.heap.size < wr.heap.size ∧ wr.ownsRow w.heap.size 87 2 (.slice (some ⟨w.heap.size, 0, none⟩) xs.length xs.length) xs.length cs ∧ RowC SvcC 2 (w.heap.size + 1) wr cs xs k ∧ Below w.heap.size w wr) (fun i _ => xs.length - (intOf i).toNat)
  case atStart => exact ⟨0, xs0, Nat.zero_le _, rfl, hsz1, hown, fun j n h => by omega, hb1⟩
  case round =>
    clear hown hb1 hsz1
    obtain ⟨k, cs, hk, rfl, hszr, hown, hfil, hbel⟩ := hrel
    by_cases hlt : k < xs.length
    · obtain ⟨x, hx⟩ : ∃ x, xs[k]? = some x := ⟨xs[k], List.getElem?_eq_getElem hlt⟩
      obtain ⟨b, o, rfl, _, _, hc⟩ := (HI.out.below SvcC.holds hbel (Nat.le_refl _)).at hx
      obtain ⟨q0, q1, z0⟩ := hc
      simp only [Nat.add_zero] at q0 q1
      have HN : Hid (xs[k]? = some x) := hx
      have hwx : wSvc x ≤ 1048576 := Nat.le_trans (wS_mem (List.mem_of_getElem? hx)) HSM.out
      have HO : Hid (wr.ownsRow w.heap.size 87 2 (.slice (some ⟨w.heap.size, 0, none⟩) xs.length xs.length) xs.length cs) := hown
      have HF : Hid (RowC SvcC 2 (w.heap.size + 1) wr cs xs k) := hfil
      have HS : Hid (w.heap.size < wr.heap.size) := hszr
      have CT := toSvc_any x wr
      have HCT := Hid.intro CT
      clear hx hown hfil CT hszr
      go_wp2_with fail
      refine HCT.out.mono ?_
      rintro e w2 ⟨rfl, hb2⟩
      clear HCT q0 q1
      have ho2 := ownsRow_below HO.out hb2
      have HB2 : Hid (Below w.heap.size w w2) := hbel.trans (hb2.mono hbel.size)
      have HF2 : Hid (RowC SvcC 2 (w.heap.size + 1) w2 cs xs k) := HF.out.keep SvcC.holds (Keeps.of_below hb2 (Nat.le_refl _) _)
      have hs2 : Hid (w.heap.size < w2.heap.size) := Nat.lt_of_lt_of_le HS.out hb2.size
      have HR : Hid (SvcC (w.heap.size + 1) w2 (fun i => ([.string x.name, .int .i64 x.spare] : List Value)[i]?) x) := ⟨rfl, rfl, z0⟩
      have hxl : cs.length = xs.length * 2 := ho2.1
      have HT : Hid (w2.there w.heap.size (k * 2) 2) := ownsRow_there ho2 (by omega)
      have HL : Hid (cs.length = xs.length * 2) := hxl
      have HO2 : Hid (w2.ownsRow w.heap.size 87 2 (.slice (some ⟨w.heap.size, 0, none⟩) xs.length xs.length) xs.length cs) := ho2
      clear hxl ho2 HO hb2 hwx 
      obtain ⟨w3, hw3⟩ : ∃ w', w' = w2.setCells w.heap.size (k * 2) [.string x.name, .int .i64 x.spare] := ⟨_, rfl⟩
      have HW3 : Hid (w3 = w2.setCells w.heap.size (k * 2) [.string x.name, .int .i64 x.spare]) := hw3
      have HS3 : Hid (w.heap.size < w3.heap.size) := by rw [hw3, size_setCells]; exact hs2
      have HO3 : Hid (w3.ownsRow w.heap.size 87 2 (.slice (some ⟨w.heap.size, 0, none⟩) xs.length xs.length) xs.length (setRun cs (k * 2) [.string x.name, .int .i64 x.spare])) := by rw [hw3]; exact ownsRow_run _ _ _ _ HO2.out
      have HB3 : Hid (Below w.heap.size w w3) := by rw [hw3]; exact below_setCells (Nat.le_refl _) _ _ _ HB2.out
      have HR3 : Hid (RowC SvcC 2 (w.heap.size + 1) w3 (setRun cs (k * 2) [.string x.name, .int .i64 x.spare]) xs (k + 1)) := by
        rw [hw3]
        exact (HF2.out.step (vs := [.string x.name, .int .i64 x.spare]) SvcC.holds HN.out rfl (by have := HL.out; omega) HR.out).keep SvcC.holds (Keeps.setCells (by omega) _ _ _)
      clear hw3 HB2 HF2 hs2 HR HL HO2
      go_wp2_with (refine wpList_store_to rfl 87 _ _ rfl w.heap.size (k * 2) #[.string x.name, .int .i64 x.spare] (by first | rfl | (simp [go_sem]; done)) rfl HT.out isz_Svc (by simp [Value.oneCell']) w3 HW3.out ?_)
      go_roundw
      case rel => exact ⟨k + 1, _, by omega, by go_num, HS3.out, HO3.out, HR3.out, HB3.out⟩
      case measure => simp [intOf]; omega
    · have HO : Hid (wr.ownsRow w.heap.size 87 2 (.slice (some ⟨w.heap.size, 0, none⟩) xs.length xs.length) xs.length cs) := hown
      have HF : Hid (RowC SvcC 2 (w.heap.size + 1) wr cs xs k) := hfil
      clear hown hfil
      go_wp2_with fail
      go_ret
      have hke : k = xs.length := by omega
      subst hke
      exact ⟨_, rfl, Nat.le_refl _, sliceC_of_row HO.out HF.out SvcC.holds HI.out.1 (by omega) (Nat.le_refl _), hbel⟩

set_option maxHeartbeats 2000000 in
theorem eqSvcS_any (xs : List Svc) (a a' : Option Addr) (cap cap' lo lo' : Nat) (w : World) (hg : SliceC SvcC 2 lo w a xs) (hh : SliceC SvcC 2 lo' w a' xs) (hsm : wS wSvc xs ≤ 1048576) :
    Calls Tryz.prog 34 #[.slice a xs.length cap, .slice a' xs.length cap'] w fun e w' => e = .returned (.bool true) ∧ Below w.heap.size w w' := by
  have hlen : xs.length ≤ 1048576 := Nat.le_trans wS_len hsm
  have HG : Hid (SliceC SvcC 2 lo w a xs) := hg
  have HH : Hid (SliceC SvcC 2 lo' w a' xs) := hh
  clear hg hh hsm
  go_enter Tryz.func34, Tryz.ntmps34
  go_wp2_with fail
  go_loopw [5] (fun i wr => ∃ (k : Nat), k ≤ xs.length ∧ i = .int .i64 k ∧ Below w.heap.size w wr) (fun i _ => xs.length - (intOf i).toNat)
  case atStart => exact ⟨0, Nat.zero_le _, rfl, Below.refl _ _⟩
  case round =>
    obtain ⟨k, hk, rfl, hbel⟩ := hrel
    by_cases hlt : k < xs.length
    · obtain ⟨x, hx⟩ : ∃ x, xs[k]? = some x := ⟨xs[k], List.getElem?_eq_getElem hlt⟩
      obtain ⟨b, o, rfl, _, _, hc⟩ := (HG.out.below SvcC.holds hbel (Nat.le_refl _)).at hx
      obtain ⟨b', o', rfl, _, _, hc'⟩ := (HH.out.below SvcC.holds hbel (Nat.le_refl _)).at hx
      obtain ⟨q0, q1, _⟩ := hc
      obtain ⟨r0, r1, _⟩ := hc'
      simp only [Nat.add_zero] at q0 q1 r0 r1
      have k0 := cell_regrown q0
      have l0 := cell_regrown r0
      have k1 := cell_regrown q1
      have l1 := cell_regrown r1
      have cE : ∀ d os, Calls Tryz.prog 68 #[.agg #[.string x.name, .int .i64 x.spare], .agg #[.string x.name, .int .i64 x.spare]] (Sort.grow (redrawn wr d) os) fun e w'' => e = .returned (.bool true) ∧ ∃ p : Regrown, w'' = Sort.grow (redrawn wr p.d) p.os := fun d os => Calls.regrown_of (eqSvc_any x _)
      have i0 : (0 : Int) ≤ (k : Int) := by omega
      have i1 : (k : Int) < (xs.length : Int) := by omega
      clear hx q0 q1 r0 r1 
      go_wp2_with fail
      refine wp_region_quiet_below (by kernel_rfl) (by kernel_rfl) ?_
      repeat (quiet_step (first | exact cE _ _))
      refine wpQuiet_nil ?_
      intro _ hw'
      obtain ⟨⟨dq, osq⟩, hw''⟩ := hw'
      have hB := hbel.trans ((below_regrown wr dq osq).mono hbel.size)
      simp only [] at hw''
      rw [← hw''] at hB
      clear hw'' cE k0 l0 k1 l1
      go_wp2_with fail
      go_roundw
      case rel => exact ⟨k + 1, by omega, by go_num, hB⟩
      case measure => simp [intOf]; omega
    · go_wp2_with fail
      go_ret
      exact ⟨rfl, hbel⟩

end Go.Proofs.YtggbhggnemlpnaaGreat
