/-
  Several texts in one: Zon, Scp, Smt.
-/
import Derived.Test.YthndbjhhhdbhpaaGreatUsd
import Derived.Test.YthndbjhhhdbhpaaGreatJ34
import Derived.Test.YthndbjhhhdbhpaaGreatJ31
import Derived.Test.YthndbjhhhdbhpaaGreatJ22
import Derived.Test.YthndbjhhhdbhpaaGreatShp
namespace Go.Proofs.YthndbjhhhdbhpaaGreat
open Go.RowKit

/-- the zone of the berth with a name; none if there is no such berth -/
def zoneOf (bs : List Brt) (s : ByteArray) : ByteArray := if idxB bs s < 0 then ⟨#[]⟩ else ((bs[(idxB bs s).toNat]?).map (·.zone)).getD ⟨#[]⟩

theorem ret_strZ {a b : ByteArray} (h : a = b) : Ending.returned (.string a) = .returned (.string b) := by rw [h]

theorem idxB_bound (bs : List Brt) (s : ByteArray) : -1 ≤ idxB bs s ∧ idxB bs s < bs.length := by
  unfold idxB
  split
  · rename_i i h
    have := (List.findIdx?_eq_some_iff_findIdx_eq.1 h).1
    omega
  · omega

set_option maxHeartbeats 1000000 in
set_option maxRecDepth 100000 in
theorem zoneOf_any (x : Flt) (a1 : Option Addr) (c1 : Nat) (a2 : Option Addr) (c2 : Nat) (a3 : Option Addr) (c3 : Nat) (lo : Nat) (s : ByteArray) (w : World) (n1 : SliceC BrtC 6 lo w a1 x.berths) (hl : x.berths.length ≤ 1048576) :
    Calls Tryz.prog 36 #[.agg #[.bool x.pack, .slice a1 x.berths.length c1, .slice a2 x.services.length c2, .slice a3 x.copies.length c3], .string s] w fun e w' => e = .returned (.string (zoneOf x.berths s)) ∧ Below w.heap.size w w' := by
  have HI : Hid (SliceC BrtC 6 lo w a1 x.berths) := n1
  clear n1
  go_enter Tryz.func36, Tryz.ntmps36
  go_wp2_with fail
  have hal : Below w.heap.size w (w.alloc (Obj.cells #[.bool x.pack, .slice a1 x.berths.length c1, .slice a2 x.services.length c2, .slice a3 x.copies.length c3] 35)) := (Below.refl _ _).alloc (Nat.le_refl _) _
  refine (l2Berth_any x a1 c1 a2 c2 a3 c3 lo s _ (HI.out.below BrtC.holds hal (Nat.le_refl _)) hl).mono ?_
  rintro e w1 ⟨rfl, hb1⟩
  have e1 : w1.cell? ⟨w.heap.size, 1, none⟩ = some (.slice a1 x.berths.length c1) := (hb1.cell (p := ⟨w.heap.size, 1, none⟩) (by simp)).trans (by simp)
  have HB1 : Hid (Below w.heap.size w w1) := hal.trans (hb1.mono hal.size)
  have HZ : Hid (zoneOf x.berths s = if idxB x.berths s < 0 then ⟨#[]⟩ else ((x.berths[(idxB x.berths s).toNat]?).map (·.zone)).getD ⟨#[]⟩) := rfl
  have hbd := idxB_bound x.berths s
  clear hb1 hal
  generalize idxB x.berths s = I at *
  by_cases h0 : I < 0
  · rw [if_pos h0] at HZ
    go_wp2_with fail
    go_ret
    exact ⟨ret_strZ HZ.out.symm, HB1.out⟩
  · rw [if_neg h0] at HZ
    obtain ⟨k, rfl⟩ : ∃ k : Nat, I = k := ⟨I.toNat, by omega⟩
    have hk : k < x.berths.length := by omega
    obtain ⟨b, hb⟩ : ∃ b, x.berths[k]? = some b := ⟨x.berths[k], List.getElem?_eq_getElem hk⟩
    obtain ⟨bb, o, rfl, _, _, hc⟩ := (HI.out.below BrtC.holds HB1.out (Nat.le_refl _)).at hb
    obtain ⟨a9, c9, q0, q1, _, _, _, _, _, _, _⟩ := hc
    have HV : Hid (zoneOf x.berths s = b.zone) := by show _ = _; rw [HZ.out, Int.toNat_natCast, hb]; rfl
    clear hb q0 HZ
    go_wp2_with fail
    go_ret
    exact ⟨ret_strZ HV.out.symm, HB1.out⟩

end Go.Proofs.YthndbjhhhdbhpaaGreat

namespace Go.Proofs.YthndbjhhhdbhpaaGreat
open Go.RowKit

abbrev brN (x : Flt) : List ByteArray := x.berths.map (·.name)

theorem valid_more {x : Flt} (h : validI x = true) : x.berths.length ≤ 12 ∧ AscN (brN x) ∧ (∀ (k : Nat) (b : Brt), x.berths[k]? = some b → P.nameOk b.name = true ∧ P.nameOk b.zone = true ∧ (0 ≤ b.room ∧ b.room ≤ 1000) ∧ mkOk b.marks = true) ∧ ∀ (k : Nat) (c : Cpy), x.copies[k]? = some c → (0 ≤ c.room ∧ c.room ≤ 1000) ∧ likesOk c.likes = true ∧ (c.at_ = ⟨#[]⟩ ∨ ∃ s, lastOf (brN x) c.at_ x.berths.length = some s) := by
  unfold validI at h
  simp only [Bool.and_eq_true, fewOk, ordOk, berthsOk, copiesOk, all_iff, decide_eq_true_eq] at h
  obtain ⟨⟨⟨h0, _⟩, _⟩, ⟨⟨h1, _⟩, _⟩, h2, _, h3, _⟩ := h
  refine ⟨h0, asc_of _ _ h1, fun k b hb => ?_, fun k c hc => ?_⟩
  · have h4 := h2 k b hb
    simp only [berthAt, Bool.and_eq_true, inR, decide_eq_true_eq] at h4
    exact ⟨((asc_iff _ _).1 h1 k b hb).1, h4.1.1.1, h4.1.1.2, h4.2⟩
  · have h4 := h3 k c hc
    simp only [copyAt, copyOk, Bool.and_eq_true, Bool.or_eq_true, inR, decide_eq_true_eq] at h4
    obtain ⟨⟨_, h5⟩, h6⟩ := h4
    refine ⟨h6.1.1.1.1.1.1.2, h6.1.1.1.2, ?_⟩
    rcases h5 with h5 | h5
    · exact Or.inr (Option.isSome_iff_exists.1 h5)
    · exact Or.inl (size_zero.1 h5)

theorem nowhere {x : Flt} (hb : ∀ (k : Nat) (b : Brt), x.berths[k]? = some b → P.nameOk b.name = true ∧ P.nameOk b.zone = true ∧ (0 ≤ b.room ∧ b.room ≤ 1000) ∧ mkOk b.marks = true) : lastOf (brN x) ⟨#[]⟩ x.berths.length = none := by
  rw [lastOf_none]
  intro j hj e
  obtain ⟨b, h1, h2⟩ := get_map e
  exact name_ne (hb j b h1).1 h2

theorem zone_at {x : Flt} (ha : AscN (brN x)) {s : ByteArray} {k : Nat} (h : lastOf (brN x) s x.berths.length = some k) : ∃ b, x.berths[k]? = some b ∧ b.name = s ∧ zoneOf x.berths s = b.zone := by
  obtain ⟨hk, hs⟩ := lastOf_get h
  obtain ⟨b, h1, h2⟩ := get_map hs
  have hi : idxB x.berths s = k := idxB_at h1 h2 fun j b' hj hb' he => by
    have := ha.inj (map_get (f := (·.name)) hb') (show _ = some b'.name by rw [he]; exact hs)
    omega
  refine ⟨b, h1, h2, ?_⟩
  unfold zoneOf
  rw [hi, if_neg (by omega), Int.toNat_natCast, h1]
  rfl

/-- another copy of a service that stands on a berth -/
def bthF (x : Flt) (ci : Nat) (sv nm : ByteArray) (i : Nat) : Bool := match x.copies[i]? with
  | some c => decide (i ≠ ci) && decide (c.service = sv) && decide (c.at_ = nm)
  | none => false

/-- another copy of a service that stands in a zone -/
def znF (x : Flt) (ci : Nat) (sv z : ByteArray) (i : Nat) : Bool := match x.copies[i]? with
  | some c => decide (i ≠ ci) && decide (c.service = sv) && decide (¬ c.at_ = ⟨#[]⟩) && decide (zoneOf x.berths c.at_ = z)
  | none => false

/-- the room of the other copies on a berth -/
def roomTo (x : Flt) (ci : Nat) (nm : ByteArray) : Nat → Int
  | 0 => 0
  | k + 1 => roomTo x ci nm k + (match x.copies[k]? with
    | some c => if c.at_ = nm ∧ k ≠ ci then c.room else 0
    | none => 0)

theorem roomTo_in {x : Flt} {ci k : Nat} {nm : ByteArray} {c : Cpy} (hk : x.copies[k]? = some c) (h1 : c.at_ = nm) (h2 : k ≠ ci) : roomTo x ci nm (k + 1) = roomTo x ci nm k + c.room := by
  simp only [roomTo, hk]
  rw [if_pos ⟨h1, h2⟩]

theorem roomTo_out {x : Flt} {ci k : Nat} {nm : ByteArray} {c : Cpy} (hk : x.copies[k]? = some c) (h : ¬ (c.at_ = nm ∧ k ≠ ci)) : roomTo x ci nm (k + 1) = roomTo x ci nm k := by
  simp only [roomTo, hk]
  rw [if_neg h]
  omega

theorem roomTo_bd {x : Flt} (ci : Nat) (nm : ByteArray) (hc : ∀ (k : Nat) (c : Cpy), x.copies[k]? = some c → 0 ≤ c.room ∧ c.room ≤ 1000) : ∀ k, 0 ≤ roomTo x ci nm k ∧ roomTo x ci nm k ≤ 1000 * k
  | 0 => by simp [roomTo]
  | k + 1 => by
    have ih := roomTo_bd ci nm hc k
    simp only [roomTo]
    cases h : x.copies[k]? with
    | none => simp only; omega
    | some c =>
      have h1 := hc k c h
      simp only
      split <;> omega

theorem use_room {x : Flt} (ci : Nat) (nm : ByteArray) (hc : ∀ (k : Nat) (c : Cpy), x.copies[k]? = some c → 0 ≤ c.room ∧ c.room ≤ 1000) : ∀ k, k ≤ 60 → (useTo x.copies nm ci k).2.1 = roomTo x ci nm k
  | 0, _ => rfl
  | k + 1, hk => by
    have ih := use_room ci nm hc k (by omega)
    have hb := roomTo_bd ci nm hc k
    unfold useTo roomTo
    cases h : x.copies[k]? with
    | none => simp only; omega
    | some c =>
      have h1 := hc k c h
      simp only
      by_cases e : c.at_ = nm ∧ k ≠ ci
      · rw [if_pos e, if_pos ⟨e.1, by omega⟩]
        simp only
        rw [ih]
        unfold wrap64
        omega
      · rw [if_neg e, if_neg (fun h => e ⟨h.1, by omega⟩)]
        omega

/-- the weights of the likes that are met -/
def likeTo (f : ByteArray → Bool) (ls : List Lik) : Nat → Int
  | 0 => 0
  | k + 1 => likeTo f ls k + (match ls[k]? with
    | some l => if f l.select then l.weight else 0
    | none => 0)

theorem likeTo_yes {f : ByteArray → Bool} {ls : List Lik} {k : Nat} {l : Lik} (hk : ls[k]? = some l) (h : f l.select = true) : likeTo f ls (k + 1) = likeTo f ls k + l.weight := by
  simp only [likeTo, hk]
  rw [if_pos h]

theorem likeTo_no {f : ByteArray → Bool} {ls : List Lik} {k : Nat} {l : Lik} (hk : ls[k]? = some l) (h : f l.select = false) : likeTo f ls (k + 1) = likeTo f ls k := by
  simp only [likeTo, hk]
  rw [if_neg (by rw [h]; decide)]
  omega

theorem likes_parts {ls : List Lik} (h : likesOk ls = true) : ls.length ≤ 5 ∧ ∀ (k : Nat) (l : Lik), ls[k]? = some l → -9 ≤ l.weight ∧ l.weight ≤ 9 := by
  simp only [likesOk, Bool.and_eq_true, all_iff, decide_eq_true_eq] at h
  refine ⟨h.1, fun k l hl => ?_⟩
  have := h.2 k l hl
  simp only [likeOk, Bool.and_eq_true, inR, decide_eq_true_eq] at this
  exact this.2

theorem likeTo_bd {f : ByteArray → Bool} {ls : List Lik} (h : ∀ (k : Nat) (l : Lik), ls[k]? = some l → -9 ≤ l.weight ∧ l.weight ≤ 9) : ∀ k : Nat, -9 * (k : Int) ≤ likeTo f ls k ∧ likeTo f ls k ≤ 9 * (k : Int)
  | 0 => by simp [likeTo]
  | k + 1 => by
    have ih := likeTo_bd (f := f) h k
    simp only [likeTo]
    cases e : ls[k]? with
    | none => simp only; omega
    | some l =>
      have h1 := h k l e
      simp only
      split <;> omega

end Go.Proofs.YthndbjhhhdbhpaaGreat

namespace Go.Proofs.YthndbjhhhdbhpaaGreat
open Go.RowKit

/-- a mark is as a leaf asks -/
def hitM (one : Bool) (nm vl : ByteArray) (m : ByteArray) : Bool := isMk m && (decide (mName m = nm) && (one || decide (mVal m = vl)))
/-- one of the first marks is -/
def hitTo (ms : List ByteArray) (one : Bool) (nm vl : ByteArray) : Nat → Bool
  | 0 => false
  | k + 1 => hitTo ms one nm vl k || (match ms[k]? with | some m => hitM one nm vl m | none => false)
def hitS (ms : List ByteArray) (one : Bool) (nm vl : ByteArray) : Bool := hitTo ms one nm vl ms.length
/-- marks are as a tree asks -/
def meetsS (ms : List ByteArray) : P.Tr → Bool
  | .nil => true
  | .node b _ p l r =>
    if b = 0 then true
    else if b = 1 then hitS ms true p.1 ⟨#[]⟩
    else if b = 2 then hitS ms false p.1 p.2
    else if b = 3 then !meetsS ms l
    else if b = 4 then meetsS ms l && meetsS ms r
    else meetsS ms l || meetsS ms r

theorem hitTo_true {ms : List ByteArray} {one : Bool} {nm vl : ByteArray} {k : Nat} (h : hitTo ms one nm vl k = true) : ∀ n, k ≤ n → hitTo ms one nm vl n = true
  | 0, hn => by have : k = 0 := by omega
                subst this; exact h
  | n + 1, hn => by
    by_cases e : k = n + 1
    · subst e; exact h
    · rw [hitTo, hitTo_true h n (by omega)]; rfl
theorem hitTo_step {ms : List ByteArray} {one : Bool} {nm vl : ByteArray} {k : Nat} {m : ByteArray} (hm : ms[k]? = some m) : hitTo ms one nm vl (k + 1) = (hitTo ms one nm vl k || hitM one nm vl m) := by
  rw [hitTo, hm]

/-- what l1Meets promises of a tree -/
def MeetOk (ns : List P.Nd) (out : List (List Nat)) (n cn co go g : Nat) (ms : List ByteArray) (am : Option Addr) (cm : Nat) (k : Nat) (t : P.Tr) : Prop :=
  ∀ (w : World), Nodes0 w g ns → KidsIn w go out → SliceC StrC 1 0 w am ms →
    Calls Tryz.prog 71 #[.agg #[.slice (some ⟨g, 0, none⟩) ns.length cn], .slice (some ⟨go, 0, none⟩) n co, .int .i64 (k : Int), .slice am ms.length cm] w fun e w' => e = .returned (.bool (meetsS ms t)) ∧ Below w.heap.size w w'

set_option maxHeartbeats 2000000 in
theorem meetNon_any (ns : List P.Nd) (out : List (List Nat)) (n cn co go g : Nat) (ms : List ByteArray) (am : Option Addr) (cm : Nat) (k : Nat) (nd : P.Nd) (hnd : ns[k]? = some nd) (hk : nd.kind = 0) : MeetOk ns out n cn co go g ms am cm k P.nonT := by
  intro w hN hK hM
  have hkl := P.getElem?_lt hnd
  have hlt := hN.1
  have hml : ms.length ≤ maxLen := hM.1
  unfold maxLen at hml
  have hNN : Hid (Nodes0 w g ns) := hN
  have hKK : Hid (KidsIn w go out) := hK
  have hMM : Hid (SliceC StrC 1 0 w am ms) := hM
  have q0 : ∀ o1, (w.alloc o1).cell? ⟨g, k * 4, none⟩ = some (.int .i64 0) := fun o1 => ((bcell ((Below.refl w.heap.size w).alloc (Nat.le_refl _) o1)).1 _ _ hlt).trans (by rw [← hk]; exact (hN.2 k nd hnd).1)
  have q1 : ∀ o1, (w.alloc o1).cell? ⟨g, k * 4 + 1, none⟩ = some (.string nd.name) := fun o1 => ((bcell ((Below.refl w.heap.size w).alloc (Nat.le_refl _) o1)).1 _ _ hlt).trans (hN.2 k nd hnd).2.1
  have q2 : ∀ o1, (w.alloc o1).cell? ⟨g, k * 4 + 2, none⟩ = some (.string nd.value) := fun o1 => ((bcell ((Below.refl w.heap.size w).alloc (Nat.le_refl _) o1)).1 _ _ hlt).trans (hN.2 k nd hnd).2.2.1
  have q3 : ∀ o1, (w.alloc o1).cell? ⟨g, k * 4 + 3, none⟩ = some (.int .i64 nd.kids) := fun o1 => ((bcell ((Below.refl w.heap.size w).alloc (Nat.le_refl _) o1)).1 _ _ hlt).trans (hN.2 k nd hnd).2.2.2
  show Calls _ _ _ _ fun e w' => e = .returned (.bool true) ∧ _
  clear hN hK hnd hk hM
  go_enter Tryz.func71, Tryz.ntmps71
  go_wp2_with fail
  go_ret
  exact ⟨rfl, by go_grown⟩

set_option maxHeartbeats 4000000 in
set_option maxRecDepth 100000 in
theorem meetNm_any (ns : List P.Nd) (out : List (List Nat)) (n cn co go g : Nat) (ms : List ByteArray) (am : Option Addr) (cm : Nat) (k : Nat) (nd : P.Nd) (hnd : ns[k]? = some nd) (hk : nd.kind = 1) : MeetOk ns out n cn co go g ms am cm k (P.nmT nd.name) := by
  intro w hN hK hM
  have hkl := P.getElem?_lt hnd
  have hlt := hN.1
  have hml : ms.length ≤ maxLen := hM.1
  unfold maxLen at hml
  have hNN : Hid (Nodes0 w g ns) := hN
  have hKK : Hid (KidsIn w go out) := hK
  have hMM : Hid (SliceC StrC 1 0 w am ms) := hM
  have q0 : ∀ o1, (w.alloc o1).cell? ⟨g, k * 4, none⟩ = some (.int .i64 1) := fun o1 => ((bcell ((Below.refl w.heap.size w).alloc (Nat.le_refl _) o1)).1 _ _ hlt).trans (by rw [← hk]; exact (hN.2 k nd hnd).1)
  have q1 : ∀ o1, (w.alloc o1).cell? ⟨g, k * 4 + 1, none⟩ = some (.string nd.name) := fun o1 => ((bcell ((Below.refl w.heap.size w).alloc (Nat.le_refl _) o1)).1 _ _ hlt).trans (hN.2 k nd hnd).2.1
  have q2 : ∀ o1, (w.alloc o1).cell? ⟨g, k * 4 + 2, none⟩ = some (.string nd.value) := fun o1 => ((bcell ((Below.refl w.heap.size w).alloc (Nat.le_refl _) o1)).1 _ _ hlt).trans (hN.2 k nd hnd).2.2.1
  have q3 : ∀ o1, (w.alloc o1).cell? ⟨g, k * 4 + 3, none⟩ = some (.int .i64 nd.kids) := fun o1 => ((bcell ((Below.refl w.heap.size w).alloc (Nat.le_refl _) o1)).1 _ _ hlt).trans (hN.2 k nd hnd).2.2.2
  show Calls _ _ _ _ fun e w' => e = .returned (.bool (hitS ms true nd.name ⟨#[]⟩)) ∧ _
  clear hN hK hnd hk hM
  go_enter Tryz.func71, Tryz.ntmps71
  go_wp2_with fail
  have HB0 : Hid (Below w.heap.size w ((w.alloc (Obj.cells #[.slice (some ⟨g, 0, none⟩) ns.length cn] 110)).alloc (Obj.cells #[.int .i64 1, .string nd.name, .string nd.value, .int .i64 nd.kids] 137))) := ((Below.refl w.heap.size w).alloc (Nat.le_refl _) _).alloc (by simp) _
  have HM0 : Hid (SliceC StrC 1 0 ((w.alloc (Obj.cells #[.slice (some ⟨g, 0, none⟩) ns.length cn] 110)).alloc (Obj.cells #[.int .i64 1, .string nd.name, .string nd.value, .int .i64 nd.kids] 137)) am ms) := hMM.out.below StrC.holds HB0.out (Nat.le_refl _)
  have hz0 : ((w.alloc (Obj.cells #[.slice (some ⟨g, 0, none⟩) ns.length cn] 110)).alloc (Obj.cells #[.int .i64 1, .string nd.name, .string nd.value, .int .i64 nd.kids] 137)).heap.size = w.heap.size + 2 := by simp
  have c0 : Hid (((w.alloc (Obj.cells #[.slice (some ⟨g, 0, none⟩) ns.length cn] 110)).alloc (Obj.cells #[.int .i64 1, .string nd.name, .string nd.value, .int .i64 nd.kids] 137)).cell? ⟨w.heap.size + 1, 0, none⟩ = some (.int .i64 1)) := by show _ = _; simp
  have c1 : Hid (((w.alloc (Obj.cells #[.slice (some ⟨g, 0, none⟩) ns.length cn] 110)).alloc (Obj.cells #[.int .i64 1, .string nd.name, .string nd.value, .int .i64 nd.kids] 137)).cell? ⟨w.heap.size + 1, 1, none⟩ = some (.string nd.name)) := by show _ = _; simp
  have c2 : Hid (((w.alloc (Obj.cells #[.slice (some ⟨g, 0, none⟩) ns.length cn] 110)).alloc (Obj.cells #[.int .i64 1, .string nd.name, .string nd.value, .int .i64 nd.kids] 137)).cell? ⟨w.heap.size + 1, 2, none⟩ = some (.string nd.value)) := by show _ = _; simp
  clear q0 q1 q2 q3 hNN hKK hMM
  generalize ((w.alloc (Obj.cells #[.slice (some ⟨g, 0, none⟩) ns.length cn] 110)).alloc (Obj.cells #[.int .i64 1, .string nd.name, .string nd.value, .int .i64 nd.kids] 137)) = w0 at *
  go_loopw [10] (fun i wr => ∃ j : Nat, j ≤ ms.length ∧ i = .int .i64 j ∧ Hid (hitTo ms true nd.name ⟨#[]⟩ j = false) ∧ Hid (Below w0.heap.size w0 wr)) (fun i _ => ms.length - (intOf i).toNat)
  case atStart => exact ⟨0, Nat.zero_le _, rfl, rfl, Below.refl _ _⟩
  case round =>
    obtain ⟨j, hj, rfl, hno, hbel⟩ := hrel
    by_cases hlt2 : j < ms.length
    · obtain ⟨m, hm⟩ : ∃ m, ms[j]? = some m := ⟨ms[j], List.getElem?_eq_getElem hlt2⟩
      obtain ⟨b, o, rfl, _, _, hc⟩ := (HM0.out.below StrC.holds hbel.out (Nat.le_refl _)).at hm
      obtain ⟨q0, z0⟩ := hc
      simp only [Nat.mul_one, Nat.add_zero] at q0
      have HX : Hid (ms[j]? = some m) := hm
      have HZ : Hid (m.size ≤ maxLen) := z0
      clear hm z0
      go_wp2_with fail
      refine (sMark_any m _ HZ.out).mono ?_
      rintro e w1 ⟨rfl, hb1⟩
      have HB1 : Hid (Below w0.heap.size w0 w1) := hbel.out.trans (hb1.mono hbel.out.size)
      have d0 : w1.cell? ⟨w.heap.size + 1, 0, none⟩ = some (.int .i64 1) := (HB1.out.cell (p := ⟨w.heap.size + 1, 0, none⟩) (by rw [hz0]; exact Nat.lt_succ_self _)).trans c0.out
      have d1 : w1.cell? ⟨w.heap.size + 1, 1, none⟩ = some (.string nd.name) := (HB1.out.cell (p := ⟨w.heap.size + 1, 1, none⟩) (by rw [hz0]; exact Nat.lt_succ_self _)).trans c1.out
      have d2 : w1.cell? ⟨w.heap.size + 1, 2, none⟩ = some (.string nd.value) := (HB1.out.cell (p := ⟨w.heap.size + 1, 2, none⟩) (by rw [hz0]; exact Nat.lt_succ_self _)).trans c2.out
      have HST : Hid (hitTo ms true nd.name ⟨#[]⟩ (j + 1) = (hitTo ms true nd.name ⟨#[]⟩ j || hitM true nd.name ⟨#[]⟩ m)) := hitTo_step HX.out
      clear hb1 hbel q0
      cases hmk : isMk m with
      | false =>
        have HN : Hid (hitTo ms true nd.name ⟨#[]⟩ (j + 1) = false) := by show _ = _; rw [HST.out, hno.out, hitM, hmk]; rfl
        clear hmk HST hno
        go_wp2_with fail
        go_roundw
        case rel => exact ⟨j + 1, by omega, by go_num, HN, HB1⟩
        case measure => simp [intOf]; omega
      | true =>
        have HH : Hid (hitM true nd.name ⟨#[]⟩ m = (decide (mName m = nd.name) && (true || decide (mVal m = ⟨#[]⟩)))) := by show _ = _; rw [hitM, hmk]; rfl
        clear hmk
        generalize mName m = nm at *
        generalize mVal m = vm at *
        by_cases hne : nm = nd.name
        · have hte := bts_eq hne
          have HT : Hid (true = hitS ms true nd.name ⟨#[]⟩) := by
            refine Eq.symm (hitTo_true (k := j + 1) ?_ _ (by omega))
            rw [HST.out, HH.out, decide_eq_true hne]
            cases hitTo ms true nd.name ⟨#[]⟩ j <;> rfl
          clear HST hno HH hne
          go_wp2_with fail
          go_ret
          exact ⟨ret_bool HT.out, HB0.out.trans (HB1.out.mono HB0.out.size)⟩
        · have hte := bts_ne hne
          have HN : Hid (hitTo ms true nd.name ⟨#[]⟩ (j + 1) = false) := by show _ = _; rw [HST.out, hno.out, HH.out, decide_eq_false hne]; rfl
          clear HST hno HH hne
          go_wp2_with fail
          go_roundw
          case rel => exact ⟨j + 1, by omega, by go_num, HN, HB1⟩
          case measure => simp [intOf]; omega
    · have hke : j = ms.length := by omega
      subst hke
      have HF : Hid (false = hitS ms true nd.name ⟨#[]⟩) := hno.out.symm
      clear hno
      go_wp2_with fail
      go_ret
      exact ⟨ret_bool HF.out, HB0.out.trans (hbel.out.mono HB0.out.size)⟩

set_option maxHeartbeats 4000000 in
set_option maxRecDepth 100000 in
theorem meetVl_any (ns : List P.Nd) (out : List (List Nat)) (n cn co go g : Nat) (ms : List ByteArray) (am : Option Addr) (cm : Nat) (k : Nat) (nd : P.Nd) (hnd : ns[k]? = some nd) (hk : nd.kind = 2) : MeetOk ns out n cn co go g ms am cm k (P.vlT nd.name nd.value) := by
  intro w hN hK hM
  have hkl := P.getElem?_lt hnd
  have hlt := hN.1
  have hml : ms.length ≤ maxLen := hM.1
  unfold maxLen at hml
  have hNN : Hid (Nodes0 w g ns) := hN
  have hKK : Hid (KidsIn w go out) := hK
  have hMM : Hid (SliceC StrC 1 0 w am ms) := hM
  have q0 : ∀ o1, (w.alloc o1).cell? ⟨g, k * 4, none⟩ = some (.int .i64 2) := fun o1 => ((bcell ((Below.refl w.heap.size w).alloc (Nat.le_refl _) o1)).1 _ _ hlt).trans (by rw [← hk]; exact (hN.2 k nd hnd).1)
  have q1 : ∀ o1, (w.alloc o1).cell? ⟨g, k * 4 + 1, none⟩ = some (.string nd.name) := fun o1 => ((bcell ((Below.refl w.heap.size w).alloc (Nat.le_refl _) o1)).1 _ _ hlt).trans (hN.2 k nd hnd).2.1
  have q2 : ∀ o1, (w.alloc o1).cell? ⟨g, k * 4 + 2, none⟩ = some (.string nd.value) := fun o1 => ((bcell ((Below.refl w.heap.size w).alloc (Nat.le_refl _) o1)).1 _ _ hlt).trans (hN.2 k nd hnd).2.2.1
  have q3 : ∀ o1, (w.alloc o1).cell? ⟨g, k * 4 + 3, none⟩ = some (.int .i64 nd.kids) := fun o1 => ((bcell ((Below.refl w.heap.size w).alloc (Nat.le_refl _) o1)).1 _ _ hlt).trans (hN.2 k nd hnd).2.2.2
  show Calls _ _ _ _ fun e w' => e = .returned (.bool (hitS ms false nd.name nd.value)) ∧ _
  clear hN hK hnd hk hM
  go_enter Tryz.func71, Tryz.ntmps71
  go_wp2_with fail
  have HB0 : Hid (Below w.heap.size w ((w.alloc (Obj.cells #[.slice (some ⟨g, 0, none⟩) ns.length cn] 110)).alloc (Obj.cells #[.int .i64 2, .string nd.name, .string nd.value, .int .i64 nd.kids] 137))) := ((Below.refl w.heap.size w).alloc (Nat.le_refl _) _).alloc (by simp) _
  have HM0 : Hid (SliceC StrC 1 0 ((w.alloc (Obj.cells #[.slice (some ⟨g, 0, none⟩) ns.length cn] 110)).alloc (Obj.cells #[.int .i64 2, .string nd.name, .string nd.value, .int .i64 nd.kids] 137)) am ms) := hMM.out.below StrC.holds HB0.out (Nat.le_refl _)
  have hz0 : ((w.alloc (Obj.cells #[.slice (some ⟨g, 0, none⟩) ns.length cn] 110)).alloc (Obj.cells #[.int .i64 2, .string nd.name, .string nd.value, .int .i64 nd.kids] 137)).heap.size = w.heap.size + 2 := by simp
  have c0 : Hid (((w.alloc (Obj.cells #[.slice (some ⟨g, 0, none⟩) ns.length cn] 110)).alloc (Obj.cells #[.int .i64 2, .string nd.name, .string nd.value, .int .i64 nd.kids] 137)).cell? ⟨w.heap.size + 1, 0, none⟩ = some (.int .i64 2)) := by show _ = _; simp
  have c1 : Hid (((w.alloc (Obj.cells #[.slice (some ⟨g, 0, none⟩) ns.length cn] 110)).alloc (Obj.cells #[.int .i64 2, .string nd.name, .string nd.value, .int .i64 nd.kids] 137)).cell? ⟨w.heap.size + 1, 1, none⟩ = some (.string nd.name)) := by show _ = _; simp
  have c2 : Hid (((w.alloc (Obj.cells #[.slice (some ⟨g, 0, none⟩) ns.length cn] 110)).alloc (Obj.cells #[.int .i64 2, .string nd.name, .string nd.value, .int .i64 nd.kids] 137)).cell? ⟨w.heap.size + 1, 2, none⟩ = some (.string nd.value)) := by show _ = _; simp
  clear q0 q1 q2 q3 hNN hKK hMM
  generalize ((w.alloc (Obj.cells #[.slice (some ⟨g, 0, none⟩) ns.length cn] 110)).alloc (Obj.cells #[.int .i64 2, .string nd.name, .string nd.value, .int .i64 nd.kids] 137)) = w0 at *
  go_loopw [10] (fun i wr => ∃ j : Nat, j ≤ ms.length ∧ i = .int .i64 j ∧ Hid (hitTo ms false nd.name nd.value j = false) ∧ Hid (Below w0.heap.size w0 wr)) (fun i _ => ms.length - (intOf i).toNat)
  case atStart => exact ⟨0, Nat.zero_le _, rfl, rfl, Below.refl _ _⟩
  case round =>
    obtain ⟨j, hj, rfl, hno, hbel⟩ := hrel
    by_cases hlt2 : j < ms.length
    · obtain ⟨m, hm⟩ : ∃ m, ms[j]? = some m := ⟨ms[j], List.getElem?_eq_getElem hlt2⟩
      obtain ⟨b, o, rfl, _, _, hc⟩ := (HM0.out.below StrC.holds hbel.out (Nat.le_refl _)).at hm
      obtain ⟨q0, z0⟩ := hc
      simp only [Nat.mul_one, Nat.add_zero] at q0
      have HX : Hid (ms[j]? = some m) := hm
      have HZ : Hid (m.size ≤ maxLen) := z0
      clear hm z0
      go_wp2_with fail
      refine (sMark_any m _ HZ.out).mono ?_
      rintro e w1 ⟨rfl, hb1⟩
      have HB1 : Hid (Below w0.heap.size w0 w1) := hbel.out.trans (hb1.mono hbel.out.size)
      have d0 : w1.cell? ⟨w.heap.size + 1, 0, none⟩ = some (.int .i64 2) := (HB1.out.cell (p := ⟨w.heap.size + 1, 0, none⟩) (by rw [hz0]; exact Nat.lt_succ_self _)).trans c0.out
      have d1 : w1.cell? ⟨w.heap.size + 1, 1, none⟩ = some (.string nd.name) := (HB1.out.cell (p := ⟨w.heap.size + 1, 1, none⟩) (by rw [hz0]; exact Nat.lt_succ_self _)).trans c1.out
      have d2 : w1.cell? ⟨w.heap.size + 1, 2, none⟩ = some (.string nd.value) := (HB1.out.cell (p := ⟨w.heap.size + 1, 2, none⟩) (by rw [hz0]; exact Nat.lt_succ_self _)).trans c2.out
      have HST : Hid (hitTo ms false nd.name nd.value (j + 1) = (hitTo ms false nd.name nd.value j || hitM false nd.name nd.value m)) := hitTo_step HX.out
      clear hb1 hbel q0
      cases hmk : isMk m with
      | false =>
        have HN : Hid (hitTo ms false nd.name nd.value (j + 1) = false) := by show _ = _; rw [HST.out, hno.out, hitM, hmk]; rfl
        clear hmk HST hno
        go_wp2_with fail
        go_roundw
        case rel => exact ⟨j + 1, by omega, by go_num, HN, HB1⟩
        case measure => simp [intOf]; omega
      | true =>
        have HH : Hid (hitM false nd.name nd.value m = (decide (mName m = nd.name) && (false || decide (mVal m = nd.value)))) := by show _ = _; rw [hitM, hmk]; rfl
        clear hmk
        generalize mName m = nm at *
        generalize mVal m = vm at *
        by_cases hne : nm = nd.name
        · have hte := bts_eq hne
          by_cases hv : vm = nd.value
          · have htv := bts_eq hv
            have HT : Hid (true = hitS ms false nd.name nd.value) := by
              refine Eq.symm (hitTo_true (k := j + 1) ?_ _ (by omega))
              rw [HST.out, HH.out, decide_eq_true hne, decide_eq_true hv]
              cases hitTo ms false nd.name nd.value j <;> rfl
            clear HST hno HH hne hv
            go_wp2_with fail
            go_ret
            exact ⟨ret_bool HT.out, HB0.out.trans (HB1.out.mono HB0.out.size)⟩
          · have htv := bts_ne hv
            have HN : Hid (hitTo ms false nd.name nd.value (j + 1) = false) := by show _ = _; rw [HST.out, hno.out, HH.out, decide_eq_false hv, decide_eq_true hne]; rfl
            clear HST hno HH hne hv
            go_wp2_with fail
            go_roundw
            case rel => exact ⟨j + 1, by omega, by go_num, HN, HB1⟩
            case measure => simp [intOf]; omega
        · have hte := bts_ne hne
          have HN : Hid (hitTo ms false nd.name nd.value (j + 1) = false) := by show _ = _; rw [HST.out, hno.out, HH.out, decide_eq_false hne]; rfl
          clear HST hno HH hne
          go_wp2_with fail
          go_roundw
          case rel => exact ⟨j + 1, by omega, by go_num, HN, HB1⟩
          case measure => simp [intOf]; omega
    · have hke : j = ms.length := by omega
      subst hke
      have HF : Hid (false = hitS ms false nd.name nd.value) := hno.out.symm
      clear hno
      go_wp2_with fail
      go_ret
      exact ⟨ret_bool HF.out, HB0.out.trans (hbel.out.mono HB0.out.size)⟩

end Go.Proofs.YthndbjhhhdbhpaaGreat
