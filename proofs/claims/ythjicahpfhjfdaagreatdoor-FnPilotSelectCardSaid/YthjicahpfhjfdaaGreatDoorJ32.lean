/-
  Several texts in one: Svc, Brt, Cpy, Flt, Plc, Usd.
-/
import Derived.Test.YthjicahpfhjfdaaGreatDoorJ0
import Derived.Test.YthjicahpfhjfdaaGreatDoorJ31
import Derived.Maps.Own
import Derived.Maps.OwnSet
import Derived.Maps.Views
namespace Go.Proofs.YthjicahpfhjfdaaGreatDoor
open Go.RowKit

structure Svc where
  name : ByteArray
  spare : Int

def wSvc (x : Svc) : Nat := x.name.size

/-- what its cells hold -/
def SvcC : Make Svc := fun _ _ f x => f 0 = some (.string x.name) ∧ f 1 = some (.int .i64 x.spare) ∧ x.name.size ≤ maxLen

theorem SvcC.holds : Holds SvcC 2 := by
  rintro lo lo' w w' f g x h _ _ ⟨q0, q1, z0⟩
  exact ⟨(h 0 (by omega)).trans q0, (h 1 (by omega)).trans q1, z0⟩

end Go.Proofs.YthjicahpfhjfdaaGreatDoor

namespace Go.Proofs.YthjicahpfhjfdaaGreatDoor
open Go.RowKit

structure Brt where
  name : ByteArray
  zone : ByteArray
  marks : List ByteArray
  room : Int
  hold : Int
  closed : Bool

def wBrt (x : Brt) : Nat := x.name.size + x.zone.size + (wS ByteArray.size x.marks)

/-- what its cells hold -/
def BrtC : Make Brt := fun lo w f x => ∃ (a2 : Option Addr) (c2 : Nat), f 0 = some (.string x.name) ∧ f 1 = some (.string x.zone) ∧ f 2 = some (.slice a2 x.marks.length c2) ∧ f 3 = some (.int .i64 x.room) ∧ f 4 = some (.int .i64 x.hold) ∧ f 5 = some (.bool x.closed) ∧ x.name.size ≤ maxLen ∧ x.zone.size ≤ maxLen ∧ SliceC StrC 1 lo w a2 x.marks

theorem BrtC.holds : Holds BrtC 6 := by
  rintro lo lo' w w' f g x h k hl ⟨a2, c2, q0, q1, q2, q3, q4, q5, z0, z1, n2⟩
  exact ⟨a2, c2, (h 0 (by omega)).trans q0, (h 1 (by omega)).trans q1, (h 2 (by omega)).trans q2, (h 3 (by omega)).trans q3, (h 4 (by omega)).trans q4, (h 5 (by omega)).trans q5, z0, z1, n2.keep StrC.holds k hl⟩

end Go.Proofs.YthjicahpfhjfdaaGreatDoor

namespace Go.Proofs.YthjicahpfhjfdaaGreatDoor
open Go.RowKit

structure Cpy where
  name : ByteArray
  service : ByteArray
  rank : Int
  born : Int
  room : Int
  hold : Int
  select : ByteArray
  likes : List Lik
  apart : Int
  near : ByteArray
  fixed : ByteArray
  at_ : ByteArray

def wCpy (x : Cpy) : Nat := x.name.size + x.service.size + x.select.size + (wS wLik x.likes) + x.near.size + x.fixed.size + x.at_.size

/-- what its cells hold -/
def CpyC : Make Cpy := fun lo w f x => ∃ (a7 : Option Addr) (c7 : Nat), f 0 = some (.string x.name) ∧ f 1 = some (.string x.service) ∧ f 2 = some (.int .i64 x.rank) ∧ f 3 = some (.int .i64 x.born) ∧ f 4 = some (.int .i64 x.room) ∧ f 5 = some (.int .i64 x.hold) ∧ f 6 = some (.string x.select) ∧ f 7 = some (.slice a7 x.likes.length c7) ∧ f 8 = some (.int .i64 x.apart) ∧ f 9 = some (.string x.near) ∧ f 10 = some (.string x.fixed) ∧ f 11 = some (.string x.at_) ∧ x.name.size ≤ maxLen ∧ x.service.size ≤ maxLen ∧ x.select.size ≤ maxLen ∧ x.near.size ≤ maxLen ∧ x.fixed.size ≤ maxLen ∧ x.at_.size ≤ maxLen ∧ SliceC LikC 2 lo w a7 x.likes

theorem CpyC.holds : Holds CpyC 12 := by
  rintro lo lo' w w' f g x h k hl ⟨a7, c7, q0, q1, q2, q3, q4, q5, q6, q7, q8, q9, q10, q11, z0, z1, z6, z9, z10, z11, n7⟩
  exact ⟨a7, c7, (h 0 (by omega)).trans q0, (h 1 (by omega)).trans q1, (h 2 (by omega)).trans q2, (h 3 (by omega)).trans q3, (h 4 (by omega)).trans q4, (h 5 (by omega)).trans q5, (h 6 (by omega)).trans q6, (h 7 (by omega)).trans q7, (h 8 (by omega)).trans q8, (h 9 (by omega)).trans q9, (h 10 (by omega)).trans q10, (h 11 (by omega)).trans q11, z0, z1, z6, z9, z10, z11, n7.keep LikC.holds k hl⟩

end Go.Proofs.YthjicahpfhjfdaaGreatDoor

namespace Go.Proofs.YthjicahpfhjfdaaGreatDoor
open Go.RowKit

structure Flt where
  pack : Bool
  berths : List Brt
  services : List Svc
  copies : List Cpy

def wFlt (x : Flt) : Nat := (wS wBrt x.berths) + (wS wSvc x.services) + (wS wCpy x.copies)

/-- what its cells hold -/
def FltC : Make Flt := fun lo w f x => ∃ (a1 : Option Addr) (c1 : Nat) (a2 : Option Addr) (c2 : Nat) (a3 : Option Addr) (c3 : Nat), f 0 = some (.bool x.pack) ∧ f 1 = some (.slice a1 x.berths.length c1) ∧ f 2 = some (.slice a2 x.services.length c2) ∧ f 3 = some (.slice a3 x.copies.length c3) ∧ SliceC BrtC 6 lo w a1 x.berths ∧ SliceC SvcC 2 lo w a2 x.services ∧ SliceC CpyC 12 lo w a3 x.copies

theorem FltC.holds : Holds FltC 4 := by
  rintro lo lo' w w' f g x h k hl ⟨a1, c1, a2, c2, a3, c3, q0, q1, q2, q3, n1, n2, n3⟩
  exact ⟨a1, c1, a2, c2, a3, c3, (h 0 (by omega)).trans q0, (h 1 (by omega)).trans q1, (h 2 (by omega)).trans q2, (h 3 (by omega)).trans q3, n1.keep BrtC.holds k hl, n2.keep SvcC.holds k hl, n3.keep CpyC.holds k hl⟩

end Go.Proofs.YthjicahpfhjfdaaGreatDoor

namespace Go.Proofs.YthjicahpfhjfdaaGreatDoor
open Go.RowKit Go.WideMaps Go.Maps

theorem law_str : Keyed Tryz.prog 9 := string_keyed Tryz.underlying9
theorem zero_int (w : World) : (zeroValue 3).run Tryz.prog w = .ok (.int .i64 0) w := by kernel_rfl

theorem run_makeMapHint {P : Program} {t k e : TypeId} (hu : P.underlying t = some (.map k e)) (q : IntKind) (n : Int) (w : World) : (Instr.makeMap t (some (.int q n))).run P w = .ok (.map (some w.heap.size)) (w.alloc (.map #[] 0)) := by
  simp [Instr.makeMap, run_underlying hu, asInt, asIntOf, Result.andThen]

theorem ownsMap_below {H : Type} {P : Program} {k : TypeId} {R : Value → Option (DataW H × List MemPlace)} {b n : Nat} {D : DataW H} {w w' : World} {B : Nat} (h : w.ownsMap P k R b n D) (hb : Below B w w') (hB : b < B) : w'.ownsMap P k R b n D := by
  obtain ⟨es, clock, h1, h2, h3, h4⟩ := h
  exact ⟨es, clock, (hb.block b hB).trans h1, h2, h3, h4⟩

/-- a text as a key -/
def kOf (s : ByteArray) : Lit := .string s.data.toList

/-- the map of places behind the first k names -/
def placesTo (ns : List ByteArray) : Nat → DataW Unit
  | 0 => .map []
  | k + 1 => match ns[k]? with
    | some s => (placesTo ns k).put (kOf s) (.lit (.int .i64 k))
    | none => placesTo ns k

theorem placesTo_isMap (ns : List ByteArray) : ∀ k, IsMap (placesTo ns k)
  | 0 => ⟨_, rfl⟩
  | k + 1 => by
    unfold placesTo
    split
    · exact IsMap.put (placesTo_isMap ns k) _ _
    · exact placesTo_isMap ns k

theorem kOf_inj {s t : ByteArray} (h : kOf s = kOf t) : s = t := by
  unfold kOf at h
  injection h with h
  cases s with | mk a => cases t with | mk b => simp at h; simp [h]

/-- the place of a name, of the last that has it -/
def lastOf (ns : List ByteArray) (s : ByteArray) : Nat → Option Nat
  | 0 => none
  | k + 1 => if ns[k]? = some s then some k else lastOf ns s k

theorem has_places (ns : List ByteArray) (s : ByteArray) : ∀ k, has (placesTo ns k) (kOf s) = (lastOf ns s k).isSome
  | 0 => rfl
  | k + 1 => by
    unfold placesTo lastOf
    cases hk : ns[k]? with
    | none => simp; exact has_places ns s k
    | some t =>
      by_cases e : t = s
      · subst e
        simp
        exact has_put_same (placesTo_isMap ns k) (show WideAt.IsKeyLit (kOf _) from trivial) _
      · simp [e]
        rw [has_put_other (fun h => e (kOf_inj h).symm)]
        exact has_places ns s k

theorem at_places (ns : List ByteArray) (s : ByteArray) : ∀ k, (placesTo ns k).atKey (kOf s) (.lit (.int .i64 0)) = .lit (.int .i64 (((lastOf ns s k).getD 0 : Nat) : Int))
  | 0 => rfl
  | k + 1 => by
    unfold placesTo lastOf
    cases hk : ns[k]? with
    | none => simp; exact at_places ns s k
    | some t =>
      by_cases e : t = s
      · subst e
        simp
        exact atKey_put_same (placesTo_isMap ns k) (show WideAt.IsKeyLit (kOf _) from trivial) _ _
      · simp [e]
        rw [atKey_put_other (fun h => e (kOf_inj h).symm)]
        exact at_places ns s k

end Go.Proofs.YthjicahpfhjfdaaGreatDoor

namespace Go.Proofs.YthjicahpfhjfdaaGreatDoor
open Go.RowKit Go.WideMaps Go.Maps

/-- how many stand, the room and the hold, of the first k copies, one left out -/
def useTo (cs : List Cpy) (s : ByteArray) (but : Int) : Nat → Int × Int × Int
  | 0 => (0, 0, 0)
  | k + 1 => match cs[k]? with
    | some c => if c.at_ = s ∧ (k : Int) ≠ but then (wrap64 ((useTo cs s but k).1 + 1), wrap64 ((useTo cs s but k).2.1 + c.room), wrap64 ((useTo cs s but k).2.2 + c.hold)) else useTo cs s but k
    | none => useTo cs s but k

theorem useTo_in {cs : List Cpy} {s : ByteArray} {but : Int} {k : Nat} {c : Cpy} (hk : cs[k]? = some c) (h1 : c.at_ = s) (h2 : (k : Int) ≠ but) : useTo cs s but (k + 1) = (wrap64 ((useTo cs s but k).1 + 1), wrap64 ((useTo cs s but k).2.1 + c.room), wrap64 ((useTo cs s but k).2.2 + c.hold)) := by
  conv => lhs; unfold useTo
  rw [hk]
  simp [h1, h2]

theorem useTo_out {cs : List Cpy} {s : ByteArray} {but : Int} {k : Nat} {c : Cpy} (hk : cs[k]? = some c) (h : ¬ (c.at_ = s ∧ (k : Int) ≠ but)) : useTo cs s but (k + 1) = useTo cs s but k := by
  conv => lhs; unfold useTo
  rw [hk]
  simp only [if_neg h]

theorem bts_ne {a b : ByteArray} (h : ¬ a = b) : (a.toList == b.toList) = false := by
  rw [ByteArray.toList_eq, ByteArray.toList_eq]
  have : ¬ a.data.toList = b.data.toList := fun e => h (by
    cases a with | mk x => cases b with | mk y => cases x; cases y; simp at e; simp [e])
  simpa using this

theorem bts_eq {a b : ByteArray} (h : a = b) : (a.toList == b.toList) = true := by subst h; simp

/-- the place of the first berth with a name -/
def idxB (bs : List Brt) (s : ByteArray) : Int := match bs.findIdx? (fun b => decide (b.name = s)) with
  | some k => k
  | none => -1

theorem idxB_at {bs : List Brt} {s : ByteArray} {k : Nat} {b : Brt} (hk : bs[k]? = some b) (h : b.name = s) (ho : ∀ j b, j < k → bs[j]? = some b → b.name ≠ s) : idxB bs s = k := by
  have : bs.findIdx? (fun b => decide (b.name = s)) = some k := by
    rw [List.findIdx?_eq_some_iff_getElem]
    have hlt := lt_of_some hk
    rw [List.getElem?_eq_getElem hlt] at hk
    injection hk with hk
    refine ⟨hlt, by simp [hk, h], fun j hj => ?_⟩
    have := ho j bs[j] hj (List.getElem?_eq_getElem (by omega))
    simpa using this
  simp [idxB, this]

theorem idxB_none {bs : List Brt} {s : ByteArray} (ho : ∀ j b, j < bs.length → bs[j]? = some b → b.name ≠ s) : idxB bs s = -1 := by
  have : bs.findIdx? (fun b => decide (b.name = s)) = none := by
    rw [List.findIdx?_eq_none_iff]
    intro b hb
    obtain ⟨j, hj⟩ := List.getElem?_of_mem hb
    simpa using ho j b (lt_of_some hj) hj
  simp [idxB, this]

/-- the sum under way lies in a block -/
def UseAt (w : World) (g : Nat) (u : Int × Int × Int) : Prop :=
  w.rangeAt g 0 [.int .i64 u.1, .int .i64 u.2.1, .int .i64 u.2.2] ∧ w.there g 0 3

theorem UseAt.below {w w' : World} {g B : Nat} {u : Int × Int × Int} (h : UseAt w g u) (hb : Below B w w') (hB : g < B) : UseAt w' g u := by
  refine ⟨fun j v hj => ?_, fun j hj => ?_⟩
  · rw [hb.cell (p := ⟨g, _, none⟩) hB]; exact h.1 j v hj
  · rw [hb.cell (p := ⟨g, _, none⟩) hB, hb.frozen (p := ⟨g, _, none⟩) hB]; exact h.2 j hj

theorem UseAt.cells {w : World} {g : Nat} {u : Int × Int × Int} (h : UseAt w g u) : w.cell? ⟨g, 0, none⟩ = some (.int .i64 u.1) ∧ w.cell? ⟨g, 1, none⟩ = some (.int .i64 u.2.1) ∧ w.cell? ⟨g, 2, none⟩ = some (.int .i64 u.2.2) :=
  ⟨h.1 0 _ rfl, h.1 1 _ rfl, h.1 2 _ rfl⟩

theorem UseAt.set {w : World} {g : Nat} {u : Int × Int × Int} (h : UseAt w g u) (v : Int × Int × Int) : UseAt (w.setCells g 0 [.int .i64 v.1, .int .i64 v.2.1, .int .i64 v.2.2]) g v :=
  ⟨World.rangeAt_setCells_same _ _ _ _ h.2, World.there_setCells h.2 _ _ _⟩

end Go.Proofs.YthjicahpfhjfdaaGreatDoor
