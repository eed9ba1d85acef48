/-
  Walks over a list of nodes: sizes, copies, equality.
-/
import Derived.Test.YtlcjdmgjekkghaaWalkB
import Derived.Lib.QuietBelow
namespace Go.Proofs.Ytlcjdmgjekkghaa
open Go.RowKit

/-- the nodes lie from a place on -/
def NodesAt (w : World) (b o : Nat) (ns : List P.Nd) : Prop :=
  ∀ (j : Nat) (n : P.Nd), ns[j]? = some n → w.cell? ⟨b, o + j * 4, none⟩ = some (.int .i64 n.kind) ∧ w.cell? ⟨b, o + j * 4 + 1, none⟩ = some (.string n.name) ∧ w.cell? ⟨b, o + j * 4 + 2, none⟩ = some (.string n.value) ∧ w.cell? ⟨b, o + j * 4 + 3, none⟩ = some (.int .i64 n.kids)

theorem NodesAt.below {w wr : World} {b o : Nat} {ns : List P.Nd} {B : Nat} (h : NodesAt w b o ns) (hb : Below B w wr) (hB : b < B) : NodesAt wr b o ns := by
  intro j n hj
  obtain ⟨q0, q1, q2, q3⟩ := h j n hj
  exact ⟨(hb.cell (p := ⟨b, _, none⟩) hB).trans q0, (hb.cell (p := ⟨b, _, none⟩) hB).trans q1, (hb.cell (p := ⟨b, _, none⟩) hB).trans q2, (hb.cell (p := ⟨b, _, none⟩) hB).trans q3⟩

theorem NodesAt.lt {w : World} {b o : Nat} {ns : List P.Nd} {k : Nat} {n : P.Nd} (h : NodesAt w b o ns) (hk : ns[k]? = some n) : b < w.heap.size :=
  block_lt_of_cell (h k n hk).1

/-- what a list of nodes holds is small -/
def Small (ns : List P.Nd) : Prop := ns.length ≤ 1048576 ∧ ∀ n ∈ ns, n.name.size ≤ 1048576 ∧ n.value.size ≤ 1048576

set_option maxHeartbeats 400000 in
theorem szNodeS_any (ns : List P.Nd) (b o cap : Nat) (w : World) (hin : NodesAt w b o ns) (hcap : ns.length ≤ cap) (hc2 : cap * 48 ≤ 140737488351232) (hs : ∀ n ∈ ns, n.name.size ≤ maxLen ∧ n.value.size ≤ maxLen) :
    Calls Try.prog 9 #[.slice (some ⟨b, o, none⟩) ns.length cap, .int .i64 1048576] w fun e w' => ∃ r : Int, e = .returned (.int .i64 r) ∧ (r = -1 ∨ (0 ≤ r ∧ r ≤ 1048576 ∧ Small ns)) ∧ Below w.heap.size w w' := by
  by_cases c1 : (1048576 : Int) - ns.length < 0
  · go_enter Try.func9, Try.ntmps9
    go_wp2_with fail
    go_ret
    exact ⟨-1, rfl, .inl rfl, Below.refl _ _⟩
  · go_enter Try.func9, Try.ntmps9
    go_wp2_with fail
    go_loopw [1, 5] (fun l i wr => ∃ (k : Nat) (L : Int), k ≤ ns.length ∧ i = .int .i64 k ∧ l = .int .i64 L ∧ 0 ≤ L ∧ L ≤ 1048576 ∧ (∀ j n, j < k → ns[j]? = some n → n.name.size ≤ 1048576 ∧ n.value.size ≤ 1048576) ∧ Below w.heap.size w wr) (fun _ i _ => ns.length - (intOf i).toNat)
    case atStart => exact ⟨0, _, Nat.zero_le _, rfl, rfl, by omega, by omega, fun j n h => by omega, Below.refl _ _⟩
    case round =>
      obtain ⟨k, L, hk, rfl, rfl, hL0, hL1, hall, hbel⟩ := hrel
      by_cases hlt : k < ns.length
      · obtain ⟨n, hn⟩ : ∃ n, ns[k]? = some n := ⟨ns[k], List.getElem?_eq_getElem hlt⟩
        obtain ⟨r0, r1, r2, r3⟩ := (hin.below hbel (hin.lt hn)) k n hn
        have HA : Hid (∀ j n, j < k → ns[j]? = some n → n.name.size ≤ 1048576 ∧ n.value.size ≤ 1048576) := hall
        have HI : Hid (NodesAt w b o ns) := hin
        have HN : Hid (ns[k]? = some n) := hn
        clear hall hin hn
        have hsn := hs n (List.mem_of_getElem? HN.out)
        unfold maxLen at hsn
        obtain ⟨hs1, hs2⟩ := hsn
        by_cases hr : sz1 n L < 0
        · have hr1 : Hid (sz1 n L = -1) := by
            show _ = _
            unfold sz1 at hr ⊢
            split at hr <;> (try split at hr) <;> simp_all <;> omega
          go_wp2_with fail
          refine (szNode_any n L _ hL0 hL1 (by unfold maxLen; omega) (by unfold maxLen; omega)).mono ?_
          rintro e w1 ⟨rfl, hb1⟩
          rw [hr1.out]
          go_wp2_with fail
          go_ret
          exact ⟨-1, rfl, .inl rfl, hbel.trans (hb1.mono hbel.size)⟩
        · have hr2 : Hid (0 ≤ sz1 n L ∧ sz1 n L ≤ 1048576 ∧ n.name.size ≤ 1048576 ∧ n.value.size ≤ 1048576) := by
            show _ ∧ _
            unfold sz1 at hr ⊢
            by_cases x1 : L - n.name.size < 0
            · rw [if_pos x1] at hr; omega
            · rw [if_neg x1] at hr ⊢
              by_cases x2 : L - n.name.size - n.value.size < 0
              · rw [if_pos x2] at hr; omega
              · rw [if_neg x2]; omega
          generalize hz : sz1 n L = z at hr2
          have HZ : Hid (sz1 n L = z) := hz
          clear hz hr
          obtain ⟨z0, z1, z2, z3⟩ := hr2.out
          clear hr2
          go_wp2_with fail
          refine (szNode_any n L _ hL0 hL1 (by unfold maxLen; omega) (by unfold maxLen; omega)).mono ?_
          rintro e w1 ⟨rfl, hb1⟩
          rw [HZ.out]
          go_wp2_with fail
          go_roundw
          case rel =>
            refine ⟨k + 1, z, by omega, by go_num, rfl, z0, z1, ?_, hbel.trans (hb1.mono hbel.size)⟩
            intro j m hj hm
            by_cases e : j = k
            · subst e
              rw [HN.out] at hm
              cases hm
              exact ⟨z2, z3⟩
            · exact HA.out j m (by omega) hm
          case measure => simp [intOf]; omega
      · have HA : Hid (∀ j n, j < k → ns[j]? = some n → n.name.size ≤ 1048576 ∧ n.value.size ≤ 1048576) := hall
        clear hall hin hs
        go_wp2_with fail
        go_ret
        refine ⟨L, rfl, .inr ⟨hL0, hL1, by omega, ?_⟩, hbel⟩
        intro n hn
        obtain ⟨j, hj⟩ := List.getElem?_of_mem hn
        exact HA.out j n (by have := P.getElem?_lt hj; omega) hj

set_option maxHeartbeats 400000 in
theorem szNodeS_nil (a : Option Addr) (cap : Nat) (w : World) :
    Calls Try.prog 9 #[.slice a 0 cap, .int .i64 1048576] w fun e w' => e = .returned (.int .i64 1048576) ∧ w' = w := by
  go_enter Try.func9, Try.ntmps9
  go_wp2_with fail
  refine wp_loop_rounds 1 ?_
  rw [rounds_succ]
  go_wp2_with fail
  go_ret
  exact ⟨rfl, rfl⟩

/-- the slice of the nodes as it comes in -/
def SliceAt (w : World) (a : Option Addr) (ns : List P.Nd) : Prop :=
  ns = [] ∨ ∃ b o, a = some ⟨b, o, none⟩ ∧ NodesAt w b o ns

theorem SliceAt.below {w wr : World} {a : Option Addr} {ns : List P.Nd} (h : SliceAt w a ns) (hb : Below w.heap.size w wr) : SliceAt wr a ns := by
  rcases h with h | ⟨b, o, rfl, h⟩
  · exact .inl h
  · match ns, h with
    | [], _ => exact .inl rfl
    | n :: r, h => exact .inr ⟨b, o, rfl, h.below hb (h.lt (k := 0) (n := n) rfl)⟩

theorem szNodeS_both (ns : List P.Nd) (a : Option Addr) (cap : Nat) (w : World) (hin : SliceAt w a ns) (hcap : ns.length ≤ cap) (hc2 : cap * 48 ≤ 140737488351232) (hs : ∀ n ∈ ns, n.name.size ≤ maxLen ∧ n.value.size ≤ maxLen) :
    Calls Try.prog 9 #[.slice a ns.length cap, .int .i64 1048576] w fun e w' => ∃ r : Int, e = .returned (.int .i64 r) ∧ (r = -1 ∨ (0 ≤ r ∧ r ≤ 1048576 ∧ Small ns)) ∧ Below w.heap.size w w' := by
  rcases hin with rfl | ⟨b, o, rfl, h⟩
  · refine (szNodeS_nil a cap w).mono ?_
    rintro e w' ⟨rfl, rfl⟩
    exact ⟨_, rfl, .inr ⟨by omega, by omega, by simp, fun n hn => by cases hn⟩, Below.refl _ _⟩
  · exact szNodeS_any ns b o cap w h hcap hc2 hs

set_option maxHeartbeats 400000 in
theorem szSelect_any (ns : List P.Nd) (a : Option Addr) (cap : Nat) (w : World) (hin : SliceAt w a ns) (hcap : ns.length ≤ cap) (hc2 : cap * 48 ≤ 140737488351232) (hs : ∀ n ∈ ns, n.name.size ≤ maxLen ∧ n.value.size ≤ maxLen) :
    Calls Try.prog 4 #[.agg #[.slice a ns.length cap], .int .i64 1048576] w fun e w' => ∃ r : Int, e = .returned (.int .i64 r) ∧ (r = -1 ∨ (0 ≤ r ∧ r ≤ 1048576 ∧ Small ns)) ∧ Below w.heap.size w w' := by
  have HS : Hid (∀ n ∈ ns, n.name.size ≤ maxLen ∧ n.value.size ≤ maxLen) := hs
  have HI : Hid (SliceAt w a ns) := hin
  clear hs hin
  go_enter Try.func4, Try.ntmps4
  go_wp2_with fail
  refine (szNodeS_both ns a cap _ (HI.out.below (by go_grown)) hcap hc2 HS.out).mono ?_
  rintro e w1 ⟨r, rfl, hr, hb⟩
  rcases hr with rfl | ⟨r0, r1, hsm⟩
  · go_wp2_with fail
    go_ret
    exact ⟨-1, rfl, .inl rfl, ((Below.refl _ _).alloc (Nat.le_refl _) _).trans (hb.mono (by simp))⟩
  · have HSM : Hid (Small ns) := hsm
    clear hsm
    go_wp2_with fail
    go_ret
    exact ⟨r, rfl, .inr ⟨r0, r1, HSM.out⟩, ((Below.refl _ _).alloc (Nat.le_refl _) _).trans (hb.mono (by simp))⟩

end Go.Proofs.Ytlcjdmgjekkghaa
