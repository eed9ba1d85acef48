import Derived.Test.YtihnjndnkgnmaaaGreatShp
import Derived.RangeFuncRecord
import Derived.Test.YtihnjndnkgnmaaaGreatFlt
import Derived.Lib.Walk
import Derived.Lib.SliceRun
import Derived.Test.YtihnjndnkgnmaaaGreatTk0
namespace Go.Proofs.YtihnjndnkgnmaaaGreat
open Go.RowKit

def Blk (g : Nat) (cs : Array Value) (t : TypeId) (w : World) : Prop := w.heap[g]? = some (.cells cs t (0, 0))

theorem Blk.lt {g : Nat} {cs : Array Value} {t : TypeId} {w : World} (h : Blk g cs t w) : g < w.heap.size := (Array.getElem?_eq_some_iff.1 h).1
theorem Blk.below {g : Nat} {cs : Array Value} {t : TypeId} {w w' : World} {B : Nat} (h : Blk g cs t w) (hb : Below B w w') (hB : g < B) : Blk g cs t w' := (hb.block g hB).trans h
theorem Blk.drew {g : Nat} {cs : Array Value} {t : TypeId} {w : World} (h : Blk g cs t w) : Blk g cs t w.drew := h
theorem Blk.cell {g : Nat} {cs : Array Value} {t : TypeId} {w : World} (h : Blk g cs t w) {o : Nat} {v : Value} (hv : cs[o]? = some v) : w.cell? ⟨g, o, none⟩ = some v := by simp [World.cell?, show w.heap[g]? = _ from h, hv]
theorem Blk.frozen {g : Nat} {cs : Array Value} {t : TypeId} {w : World} (h : Blk g cs t w) (o : Nat) : w.frozen? ⟨g, o, none⟩ = false := by simp [World.frozen?, show w.heap[g]? = _ from h]
theorem Blk.range {g : Nat} {cs : List Value} {t : TypeId} {w : World} (h : Blk g cs.toArray t w) : w.rangeAt g 0 cs := fun j v hj => by rw [Nat.zero_add]; exact h.cell (by simpa using hj)
theorem Blk.alloc (w : World) (cs : Array Value) (t : TypeId) : Blk w.heap.size cs t (w.alloc (.cells cs t)) := World.alloc_heap_new w _
theorem Blk.other {g : Nat} {cs : Array Value} {t : TypeId} {w : World} (h : Blk g cs t w) {a : Addr} (hne : g ≠ a.block) (v : Value) : Blk g cs t (w.setCell a v) := (Below.heap_setCell w a v g hne).trans h
theorem Blk.set {g : Nat} {cs : Array Value} {t : TypeId} {w : World} (h : Blk g cs t w) (o : Nat) (v : Value) : Blk g (cs.setIfInBounds o v) t (w.setCell ⟨g, o, none⟩ v) := by
 obtain ⟨hlt, hk⟩ := Array.getElem?_eq_some_iff.1 h
 show (w.heap.modify g _)[g]? = _
 rw [Array.getElem?_eq_getElem (by rw [Array.size_modify]; exact hlt), Array.getElem_modify_self, hk]
 rfl

theorem Blk.there {g : Nat} {cs : Array Value} {t : TypeId} {w : World} (h : Blk g cs t w) : w.there g 0 cs.size := fun j hj => by
 refine ⟨?_, h.frozen _⟩
 rw [h.cell (o := 0 + j) (v := cs[j]) (by simp [hj])]
 rfl

theorem Blk.rangeA {g : Nat} {cs : Array Value} {t : TypeId} {w : World} (h : Blk g cs t w) : w.rangeAt g 0 cs.toList := fun j v hj => by
 rw [Nat.zero_add]
 exact h.cell (by simpa using hj)

end Go.Proofs.YtihnjndnkgnmaaaGreat

namespace Go.Proofs.YtihnjndnkgnmaaaGreat
open Go.RowKit

def setRow (cs : Array Value) : Nat → List Value → Array Value
 | _, [] => cs
 | o, v :: r => setRow (cs.setIfInBounds o v) (o + 1) r

theorem take_set_succ (v : Value) : ∀ (l : List Value) (o : Nat), o < l.length → (l.set o v).take (o + 1) = l.take o ++ [v]
 | [], _, h => by simp at h
 | a :: l, 0, _ => by simp
 | a :: l, o + 1, h => by
  have ih := take_set_succ v l o (by simpa using h)
  simp [ih]

theorem setRow_list : ∀ (vs : List Value) (cs : Array Value) (o : Nat), o + vs.length = cs.size → (setRow cs o vs).toList = cs.toList.take o ++ vs
 | [], cs, o, h => by
  have : cs.toList.length ≤ o := by simp at h; simp; omega
  simp [setRow, List.take_of_length_le this]
 | v :: r, cs, o, h => by
  have h' : o + (r.length + 1) = cs.size := by simpa using h
  have ih := setRow_list r (cs.setIfInBounds o v) (o + 1) (by simp; omega)
  simp only [setRow]
  rw [ih, Array.toList_setIfInBounds, take_set_succ v _ _ (by simp; omega)]
  simp

theorem setRow_all (vs : List Value) (cs : Array Value) (h : vs.length = cs.size) : setRow cs 0 vs = vs.toArray := by
 have := setRow_list vs cs 0 (by omega)
 apply Array.toList_inj.1
 rw [this]
 simp

theorem Blk.setRow {g : Nat} {t : TypeId} : ∀ (vs : List Value) (o : Nat) (cs : Array Value) (w : World), Blk g cs t w → Blk g (setRow cs o vs) t (w.setCells g o vs)
 | [], _, _, _, h => h
 | v :: r, o, _, _, h => Blk.setRow r (o + 1) _ _ (h.set o v)

theorem Blk.setAll {g : Nat} {cs : Array Value} {t : TypeId} {w : World} (h : Blk g cs t w) (vs : Array Value) (hl : vs.size = cs.size) : Blk g vs t (w.setCells g 0 vs.toList) := by
 have := h.setRow vs.toList 0
 rw [setRow_all vs.toList cs (by simpa using hl)] at this
 simpa using this

theorem Blk.grown {g : Nat} {cs : Array Value} {t : TypeId} {w w' : World} {row : Option Nat} (h : Blk g cs t w) (hg : w.grownBy w' row) (hr : some g ≠ row) : Blk g cs t w' := (hg.block g h.lt hr).trans h

theorem blk_setCells_other {g b : Nat} {cs : Array Value} {t : TypeId} (hne : g ≠ b) : ∀ (vs : List Value) (o : Nat) (w : World), Blk g cs t w → Blk g cs t (w.setCells b o vs)
 | [], _, _, h => h
 | v :: r, o, _, h => blk_setCells_other hne r (o + 1) _ (h.other (a := ⟨b, o, none⟩) hne v)

end Go.Proofs.YtihnjndnkgnmaaaGreat

namespace Go.Proofs.YtihnjndnkgnmaaaGreat
open Go.RowKit

theorem setRun_app : ∀ (vs a b : List Value) (o : Nat), a.length ≤ o → setRun (a ++ b) o vs = a ++ setRun b (o - a.length) vs
 | [], _, _, _, _ => rfl
 | v :: vs, a, b, o, h => by
  simp only [setRun]
  rw [List.set_append_right _ _ h, setRun_app vs a _ (o + 1) (by omega), show o + 1 - a.length = o - a.length + 1 by omega]

theorem rowb {base g cap n : Nat} {w : World} {e : TypeId} {s : Nat} {cs : List Value} (h : w.ownsRow base e s (.slice (some ⟨g, 0, none⟩) n cap) n cs) : base ≤ g := by
 rcases h.2 with ⟨h1, _⟩ | ⟨g', cap', cur, h1, h2, _⟩
 ·cases h1
 ·cases h1; exact h2

theorem rowf {base n : Nat} {w : World} {e : TypeId} {s : Nat} {cs : List Value} {v : Value} (h : w.ownsRow base e s v n cs) (hn : v ≠ .slice none 0 0) : ∃ g cap, v = .slice (some ⟨g, 0, none⟩) n cap := by
 rcases h.2 with ⟨h1, _⟩ | ⟨g', cap', cur, h1, _⟩
 ·exact absurd h1 hn
 ·exact ⟨g', cap', h1⟩

def rcLik (x : Lik) : List Value := [.string x.select, .int .i64 x.weight]
def rvLik : List Lik → List Value
 | [] => []
 | x :: r => rcLik x ++ rvLik r

theorem rcLik_len (x : Lik) : (rcLik x).length = 2 := rfl
theorem rvLik_len : ∀ xs : List Lik, (rvLik xs).length = xs.length * 2
 | [] => rfl
 | x :: r => by
  have := rvLik_len r
  simp only [rvLik, List.length_append, List.length_cons, rcLik_len]
  omega

theorem rvLik_at : ∀ (xs : List Lik) (k : Nat) (x : Lik) (j : Nat), xs[k]? = some x → j < 2 → (rvLik xs)[k * 2 + j]? = (rcLik x)[j]?
 | [], _, _, _, h, _ => by simp at h
 | y :: r, 0, x, j, h, hj => by
  simp at h
  subst h
  simp only [rvLik]
  rw [List.getElem?_append_left (by rw [rcLik_len]; omega)]
  simp
 | y :: r, k + 1, x, j, h, hj => by
  simp at h
  simp only [rvLik]
  rw [List.getElem?_append_right (by rw [rcLik_len]; omega), rcLik_len, show (k + 1) * 2 + j - 2 = k * 2 + j by omega]
  exact rvLik_at r k x j h hj

theorem rvLik_same : ∀ (xs : List Lik) (k : Nat) (x : Lik), xs[k]? = some x → setRun (rvLik xs) (k * 2) (rcLik x) = rvLik xs
 | [], _, _, h => by simp at h
 | z :: r, 0, x, h => by
  simp at h
  subst h
  rfl
 | z :: r, k + 1, x, h => by
  simp at h
  simp only [rvLik]
  rw [setRun_app _ _ _ _ (by rw [rcLik_len]; omega), rcLik_len, show (k + 1) * 2 - 2 = k * 2 by omega, rvLik_same r k x h]

theorem rvLik_one : ∀ (xs : List Lik), ∀ u ∈ rvLik xs, u.oneCell' = true
 | [], u, h => by cases h
 | x :: r, u, h => by
  simp only [rvLik, List.mem_append] at h
  rcases h with h | h
  ·have : ∀ v ∈ rcLik x, v.oneCell' = true := by
    intro v hv
    simp only [rcLik, List.mem_cons, List.not_mem_nil, or_false] at hv
    rcases hv with rfl | rfl <;> rfl
   exact this u h
  ·exact rvLik_one r u h

theorem cells_rcLik {lo : Nat} {w : World} {f : Nat → Option Value} {x : Lik} (h : LikC lo w f x) (j : Nat) (v : Value) (hv : (rcLik x)[j]? = some v) : f j = some v := by
 obtain ⟨q0, q1, _⟩ := h
 have hj : j < 2 := lt_of_some hv
 have hc : j = 0 ∨ j = 1 := by omega
 rcases hc with rfl | rfl <;> (cases hv; assumption)

theorem rcLik_cells {lo : Nat} {w : World} {f : Nat → Option Value} {x : Lik} (h : ∀ j v, (rcLik x)[j]? = some v → f j = some v) (z0 : x.select.size ≤ maxLen) : LikC lo w f x :=
 ⟨h 0 _ rfl, h 1 _ rfl, z0⟩

theorem newsLik {lo : Nat} {w : World} {b o : Nat} {xs : List Lik} (h : SliceC LikC 2 lo w (some ⟨b, o, none⟩) xs) (j : Nat) (u : Value) (hu : (rvLik xs)[j]? = some u) : w.cell? ((⟨b, o, none⟩ : Addr).add j) = some u := by
 have hl : j < xs.length * 2 := by have := lt_of_some hu; rwa [rvLik_len] at this
 obtain ⟨x, hx⟩ : ∃ x, xs[j / 2]? = some x := ⟨xs[j / 2]'(by omega), List.getElem?_eq_getElem (by omega)⟩
 obtain ⟨b', o', e, _, _, hc⟩ := h.at hx
 cases e
 rw [show j = j / 2 * 2 + j % 2 by omega, rvLik_at xs (j / 2) x (j % 2) hx (by omega)] at hu
 have := cells_rcLik hc (j % 2) u hu
 rw [Addr.add_mid, show o + j = o + j / 2 * 2 + j % 2 by omega]
 exact this

def SzLik (xs : List Lik) (m : Nat) : Prop := ∀ x ∈ xs, x.select.size ≤ m

theorem rowslLik {base cap : Nat} {a : Option Addr} {w : World} {xs : List Lik} (h : w.ownsRow base 125 2 (.slice a xs.length cap) xs.length (rvLik xs)) (hm : xs.length ≤ 1048576) (hz : SzLik xs maxLen) : SliceC LikC 2 base w a xs := by
 rcases h.2 with ⟨h1, _⟩ | ⟨g', cap', cur, h1, _⟩
 ·have : xs.length = 0 := by injection h1
  rw [List.length_eq_zero_iff.1 this]
  exact SliceC.nil
 ·have e : a = some ⟨g', 0, none⟩ := by injection h1
  subst e
  refine ⟨by unfold maxLen; omega, .inr ⟨g', 0, rfl, ⟨rowb h, fun _ p => h.frozenAt p⟩, (h.lt g' rfl).2, fun k x hk => ?_⟩⟩
  have hlt := lt_of_some hk
  have hzz := hz x (List.mem_of_getElem? hk)
  refine rcLik_cells (fun j v hv => ?_) hzz
  have hj : j < 2 := lt_of_some hv
  show w.cell? ⟨g', 0 + k * 2 + j, none⟩ = some v
  have := h.cellAt (k * 2 + j) (by omega)
  rw [Nat.zero_add]
  rw [this, rvLik_at xs k x j hk hj]
  exact hv

theorem size_of_Lik {lo : Nat} {w : World} {a : Option Addr} {xs : List Lik} (h : SliceC LikC 2 lo w a xs) : SzLik xs maxLen := by
 intro x hx
 obtain ⟨j, hj⟩ := List.getElem?_of_mem hx
 obtain ⟨_, _, _, _, _, hc⟩ := h.at hj
 obtain ⟨_, _, z0⟩ := hc
 exact z0

def rcSvc (x : Svc) : List Value := [.string x.name, .int .i64 x.spare]
def rvSvc : List Svc → List Value
 | [] => []
 | x :: r => rcSvc x ++ rvSvc r

theorem rcSvc_len (x : Svc) : (rcSvc x).length = 2 := rfl
theorem rvSvc_len : ∀ xs : List Svc, (rvSvc xs).length = xs.length * 2
 | [] => rfl
 | x :: r => by
  have := rvSvc_len r
  simp only [rvSvc, List.length_append, List.length_cons, rcSvc_len]
  omega

theorem rvSvc_at : ∀ (xs : List Svc) (k : Nat) (x : Svc) (j : Nat), xs[k]? = some x → j < 2 → (rvSvc xs)[k * 2 + j]? = (rcSvc x)[j]?
 | [], _, _, _, h, _ => by simp at h
 | y :: r, 0, x, j, h, hj => by
  simp at h
  subst h
  simp only [rvSvc]
  rw [List.getElem?_append_left (by rw [rcSvc_len]; omega)]
  simp
 | y :: r, k + 1, x, j, h, hj => by
  simp at h
  simp only [rvSvc]
  rw [List.getElem?_append_right (by rw [rcSvc_len]; omega), rcSvc_len, show (k + 1) * 2 + j - 2 = k * 2 + j by omega]
  exact rvSvc_at r k x j h hj

theorem rvSvc_same : ∀ (xs : List Svc) (k : Nat) (x : Svc), xs[k]? = some x → setRun (rvSvc xs) (k * 2) (rcSvc x) = rvSvc xs
 | [], _, _, h => by simp at h
 | z :: r, 0, x, h => by
  simp at h
  subst h
  rfl
 | z :: r, k + 1, x, h => by
  simp at h
  simp only [rvSvc]
  rw [setRun_app _ _ _ _ (by rw [rcSvc_len]; omega), rcSvc_len, show (k + 1) * 2 - 2 = k * 2 by omega, rvSvc_same r k x h]

theorem rvSvc_one : ∀ (xs : List Svc), ∀ u ∈ rvSvc xs, u.oneCell' = true
 | [], u, h => by cases h
 | x :: r, u, h => by
  simp only [rvSvc, List.mem_append] at h
  rcases h with h | h
  ·have : ∀ v ∈ rcSvc x, v.oneCell' = true := by
    intro v hv
    simp only [rcSvc, List.mem_cons, List.not_mem_nil, or_false] at hv
    rcases hv with rfl | rfl <;> rfl
   exact this u h
  ·exact rvSvc_one r u h

theorem cells_rcSvc {lo : Nat} {w : World} {f : Nat → Option Value} {x : Svc} (h : SvcC lo w f x) (j : Nat) (v : Value) (hv : (rcSvc x)[j]? = some v) : f j = some v := by
 obtain ⟨q0, q1, _⟩ := h
 have hj : j < 2 := lt_of_some hv
 have hc : j = 0 ∨ j = 1 := by omega
 rcases hc with rfl | rfl <;> (cases hv; assumption)

theorem rcSvc_cells {lo : Nat} {w : World} {f : Nat → Option Value} {x : Svc} (h : ∀ j v, (rcSvc x)[j]? = some v → f j = some v) (z0 : x.name.size ≤ maxLen) : SvcC lo w f x :=
 ⟨h 0 _ rfl, h 1 _ rfl, z0⟩

theorem newsSvc {lo : Nat} {w : World} {b o : Nat} {xs : List Svc} (h : SliceC SvcC 2 lo w (some ⟨b, o, none⟩) xs) (j : Nat) (u : Value) (hu : (rvSvc xs)[j]? = some u) : w.cell? ((⟨b, o, none⟩ : Addr).add j) = some u := by
 have hl : j < xs.length * 2 := by have := lt_of_some hu; rwa [rvSvc_len] at this
 obtain ⟨x, hx⟩ : ∃ x, xs[j / 2]? = some x := ⟨xs[j / 2]'(by omega), List.getElem?_eq_getElem (by omega)⟩
 obtain ⟨b', o', e, _, _, hc⟩ := h.at hx
 cases e
 rw [show j = j / 2 * 2 + j % 2 by omega, rvSvc_at xs (j / 2) x (j % 2) hx (by omega)] at hu
 have := cells_rcSvc hc (j % 2) u hu
 rw [Addr.add_mid, show o + j = o + j / 2 * 2 + j % 2 by omega]
 exact this

def SzSvc (xs : List Svc) (m : Nat) : Prop := ∀ x ∈ xs, x.name.size ≤ m

theorem rowslSvc {base cap : Nat} {a : Option Addr} {w : World} {xs : List Svc} (h : w.ownsRow base 94 2 (.slice a xs.length cap) xs.length (rvSvc xs)) (hm : xs.length ≤ 1048576) (hz : SzSvc xs maxLen) : SliceC SvcC 2 base w a xs := by
 rcases h.2 with ⟨h1, _⟩ | ⟨g', cap', cur, h1, _⟩
 ·have : xs.length = 0 := by injection h1
  rw [List.length_eq_zero_iff.1 this]
  exact SliceC.nil
 ·have e : a = some ⟨g', 0, none⟩ := by injection h1
  subst e
  refine ⟨by unfold maxLen; omega, .inr ⟨g', 0, rfl, ⟨rowb h, fun _ p => h.frozenAt p⟩, (h.lt g' rfl).2, fun k x hk => ?_⟩⟩
  have hlt := lt_of_some hk
  have hzz := hz x (List.mem_of_getElem? hk)
  refine rcSvc_cells (fun j v hv => ?_) hzz
  have hj : j < 2 := lt_of_some hv
  show w.cell? ⟨g', 0 + k * 2 + j, none⟩ = some v
  have := h.cellAt (k * 2 + j) (by omega)
  rw [Nat.zero_add]
  rw [this, rvSvc_at xs k x j hk hj]
  exact hv

theorem size_of_Svc {lo : Nat} {w : World} {a : Option Addr} {xs : List Svc} (h : SliceC SvcC 2 lo w a xs) : SzSvc xs maxLen := by
 intro x hx
 obtain ⟨j, hj⟩ := List.getElem?_of_mem hx
 obtain ⟨_, _, _, _, _, hc⟩ := h.at hj
 obtain ⟨_, _, z0⟩ := hc
 exact z0

abbrev rvStr (xs : List ByteArray) : List Value := xs.map Value.string
theorem rvStr_len (xs : List ByteArray) : (rvStr xs).length = xs.length * 1 := by simp
theorem rvStr_one (ms : List ByteArray) : ∀ u ∈ rvStr ms, u.oneCell' = true := by
 intro u hu
 obtain ⟨x, _, rfl⟩ := List.mem_map.1 hu
 rfl
theorem rvStr_at {ms : List ByteArray} {j : Nat} {u : Value} (h : (rvStr ms)[j]? = some u) : ∃ s, ms[j]? = some s ∧ u = .string s := by
 rw [List.getElem?_map] at h
 cases e : ms[j]? with
 | none => rw [e] at h; cases h
 | some s => rw [e] at h; cases h; exact ⟨s, rfl, rfl⟩
theorem newsStr {lo : Nat} {w : World} {b o : Nat} {xs : List ByteArray} (h : SliceC StrC 1 lo w (some ⟨b, o, none⟩) xs) (j : Nat) (u : Value) (hu : (rvStr xs)[j]? = some u) : w.cell? ((⟨b, o, none⟩ : Addr).add j) = some u := by
 obtain ⟨s, hs, rfl⟩ := rvStr_at hu
 obtain ⟨b', o', e, _, _, hc⟩ := h.at hs
 cases e
 have := hc.1
 simp only [Nat.mul_one, Nat.add_zero] at this
 rw [Addr.add_mid]
 exact this
def SzStr (xs : List ByteArray) (m : Nat) : Prop := ∀ x ∈ xs, x.size ≤ m
theorem size_of_Str {lo : Nat} {w : World} {a : Option Addr} {xs : List ByteArray} (h : SliceC StrC 1 lo w a xs) : SzStr xs maxLen := by
 intro x hx
 obtain ⟨j, hj⟩ := List.getElem?_of_mem hx
 obtain ⟨_, _, _, _, _, hc⟩ := h.at hj
 exact hc.2
theorem rowslStr {base cap : Nat} {a : Option Addr} {w : World} {xs : List ByteArray} (h : w.ownsRow base 9 1 (.slice a xs.length cap) xs.length (rvStr xs)) (hm : xs.length ≤ 1048576) (hz : SzStr xs maxLen) : SliceC StrC 1 base w a xs := by
 rcases h.2 with ⟨h1, _⟩ | ⟨g', cap', cur, h1, _⟩
 ·have : xs.length = 0 := by injection h1
  rw [List.length_eq_zero_iff.1 this]
  exact SliceC.nil
 ·have e : a = some ⟨g', 0, none⟩ := by injection h1
  subst e
  refine ⟨by unfold maxLen; omega, .inr ⟨g', 0, rfl, ⟨rowb h, fun _ p => h.frozenAt p⟩, (h.lt g' rfl).2, fun k x hk => ⟨?_, hz x (List.mem_of_getElem? hk)⟩⟩⟩
  have hlt := lt_of_some hk
  have := h.cellAt k (by omega)
  simp only [Nat.mul_one, Nat.add_zero, Nat.zero_add]
  rw [this, List.getElem?_map, hk]
  rfl

theorem run_append_noneD {P : Program} {w : World} (base : Nat) (t ty e : TypeId) (i : TypeInfo) (size c : Nat) (ht : P.underlying t = some (.slice e)) (hi : P.info? e = some i)
  (v : Value) (n : Nat) (xs : List Value) (hown : w.ownsRow base e size v n xs) :
  (Builtin.append_ #[t, t] ty #[v, .slice none 0 c]).run P w = .ok v w := by
 rcases hown.2 with ⟨rfl, rfl⟩ | ⟨g, cap, cur, rfl, _, _, hnc, _⟩
 ·simp [Builtin.append_, run_underlying ht, sizeOf, typeInfo, hi, Builtin.lenOf, Builtin.firstCells]
 ·simp [Builtin.append_, run_underlying ht, sizeOf, typeInfo, hi, Builtin.lenOf, Builtin.firstCells, hnc, storeCells]

theorem wpList_append_D {P : Program} {w : World} {ops : Array Oper} {rest : List Oper} {o : Oper} {a : Act} {Q : Exit → Act → World → Prop} (hgd : o.guard = none) (s x : Operand) (t : TypeId)
  (ho : o.op = .call { callee := .builtin .append, args := #[s, x], argTypes := #[t, t] })
  (base : Nat) (e : TypeId) (i : TypeInfo) (z : Value) (size bytes : Nat) (ht : P.underlying t = some (.slice e)) (hi : P.info? e = some i) (hz : i.zero = some z)
  (hsize : i.size = size) (hby : i.bytes = bytes) (hzs : z.cells.size = size) (hsz : 0 < size)
  (v : Value) (n : Nat) (xs : List Value) (hs : a.eval s = v) (hown : w.ownsRow base e size v n xs)
  (ao : Option Addr) (m c : Nat) (news : List Value) (hx : a.eval x = .slice ao m c) (hno : ao = none → m = 0) (hl : news.length = m * size) (hnews : ∀ ad, ao = some ad → ∀ j u, news[j]? = some u → w.cell? (ad.add j) = some u) (h1 : ∀ u ∈ news, u.oneCell' = true)
  (h63 : n + m ≤ maxLen) (hbytes : (n + m) * bytes ≤ 140737488355328) (hbase : base ≤ w.heap.size)
  (h : ∀ v' w', w'.ownsRow base e size v' (n + m) (xs ++ news) → w.grownBy w' v.ownBlock → (v' = .slice none 0 0 ↔ v = .slice none 0 0 ∧ m = 0) → wpList P ops Q rest (a.put o.dst v') w') : wpList P ops Q (o :: rest) a w := by
 cases ao with
 | some ad => exact wpList_append_own w hgd s x t ho base e i z size bytes ht hi hz hsize hby hzs hsz v n xs hs hown ad m c news hx hl (hnews ad rfl) h1 h63 hbytes hbase h
 | none =>
  obtain rfl := hno rfl
  have hn : news = [] := List.length_eq_zero_iff.1 (by omega)
  subst hn
  have hrun := run_append_noneD (P := P) (w := w) base t o.type e i size c ht hi v n xs hown
  refine wpList_plain hgd fun K hK => ?_
  unfold Oper.wp
  simp [execOp, ho, resolve, invoke, builtin, hs, hx, hrun, Result.andThen]
  exact hK _ _ (h v w (by simpa using hown) ⟨rfl, rfl, rfl, Nat.le_refl _, fun _ _ _ => rfl⟩ (by simp))

theorem SliceC.nilD {α : Type} {C : Make α} {n lo : Nat} {w : World} {a : Option Addr} {xs : List α} (h : SliceC C n lo w a xs) (e : a = none) : xs.length = 0 := by
 rcases h.2 with h | ⟨b, o, h, _⟩
 ·rw [h]; rfl
 ·rw [e] at h; cases h
theorem newsOStr {lo : Nat} {w : World} {a : Option Addr} {xs : List ByteArray} (h : SliceC StrC 1 lo w a xs) : ∀ ad, a = some ad → ∀ j u, (rvStr xs)[j]? = some u → w.cell? (ad.add j) = some u := by
 intro ad e j u hu
 rcases h.2 with h' | ⟨b, o, e', _⟩
 ·subst h'; cases hu
 ·rw [e] at e'; cases e'; subst e; exact newsStr h j u hu
theorem newsOLik {lo : Nat} {w : World} {a : Option Addr} {xs : List Lik} (h : SliceC LikC 2 lo w a xs) : ∀ ad, a = some ad → ∀ j u, (rvLik xs)[j]? = some u → w.cell? (ad.add j) = some u := by
 intro ad e j u hu
 rcases h.2 with h' | ⟨b, o, e', _⟩
 ·subst h'; cases hu
 ·rw [e] at e'; cases e'; subst e; exact newsLik h j u hu
theorem newsOSvc {lo : Nat} {w : World} {a : Option Addr} {xs : List Svc} (h : SliceC SvcC 2 lo w a xs) : ∀ ad, a = some ad → ∀ j u, (rvSvc xs)[j]? = some u → w.cell? (ad.add j) = some u := by
 intro ad e j u hu
 rcases h.2 with h' | ⟨b, o, e', _⟩
 ·subst h'; cases hu
 ·rw [e] at e'; cases e'; subst e; exact newsSvc h j u hu

end Go.Proofs.YtihnjndnkgnmaaaGreat

namespace Go.Proofs.YtihnjndnkgnmaaaGreat
open Go.RowKit

set_option maxHeartbeats 8000000 in
set_option maxRecDepth 100000 in
theorem berthOf_any (x : Brt) (a2 : Option Addr) (c2 lo : Nat) (w : World) (n2 : SliceC StrC 1 lo w a2 x.marks) (hl : x.marks.length ≤ 1048576) :
  Calls Tryz.prog 55 #[.agg #[.string x.name, .string x.zone, .slice a2 x.marks.length c2, .int .i64 x.room, .int .i64 x.hold, .bool x.closed]] w fun e w' => ∃ g q, e = .returned (.agg #[.string x.name, .string x.zone, .slice (some ⟨g, 0, none⟩) x.marks.length q, .int .i64 x.room, .int .i64 x.hold, .bool x.closed]) ∧ SliceC StrC 1 w.heap.size w' (some ⟨g, 0, none⟩) x.marks ∧ w.heap.size ≤ g ∧ g < w'.heap.size ∧ Below w.heap.size w w' := by
 obtain ⟨i0, hi, hz0, hz1, hz2⟩ := info_parts info_str
 have HI := iH n2
 clear n2
 have h1 : Blk w.heap.size #[.string x.name, .string x.zone, .slice a2 x.marks.length c2, .int .i64 x.room, .int .i64 x.hold, .bool x.closed] 45 (w.alloc (Obj.cells #[.string x.name, .string x.zone, .slice a2 x.marks.length c2, .int .i64 x.room, .int .i64 x.hold, .bool x.closed] 45)) := Blk.alloc _ _ _
 have HZ2 : Hid (Blk (w.heap.size + 1) #[.string ⟨#[]⟩, .string ⟨#[]⟩, .slice none 0 0, .int .i64 0, .int .i64 0, .bool false] 45 ((w.alloc (Obj.cells #[.string x.name, .string x.zone, .slice a2 x.marks.length c2, .int .i64 x.room, .int .i64 x.hold, .bool x.closed] 45)).alloc (Obj.cells #[.string ⟨#[]⟩, .string ⟨#[]⟩, .slice none 0 0, .int .i64 0, .int .i64 0, .bool false] 45))) := by
  have := Blk.alloc (w.alloc (Obj.cells #[.string x.name, .string x.zone, .slice a2 x.marks.length c2, .int .i64 x.room, .int .i64 x.hold, .bool x.closed] 45)) #[.string ⟨#[]⟩, .string ⟨#[]⟩, .slice none 0 0, .int .i64 0, .int .i64 0, .bool false] 45
  show Blk _ _ _ _
  simpa using this
 have HK2 : Hid (Blk w.heap.size #[.string x.name, .string x.zone, .slice a2 x.marks.length c2, .int .i64 x.room, .int .i64 x.hold, .bool x.closed] 45 ((w.alloc (Obj.cells #[.string x.name, .string x.zone, .slice a2 x.marks.length c2, .int .i64 x.room, .int .i64 x.hold, .bool x.closed] 45)).alloc (Obj.cells #[.string ⟨#[]⟩, .string ⟨#[]⟩, .slice none 0 0, .int .i64 0, .int .i64 0, .bool false] 45))) := h1.below ((Below.refl _ _).alloc nL _) h1.lt
 have hB2 : Below w.heap.size w ((w.alloc (Obj.cells #[.string x.name, .string x.zone, .slice a2 x.marks.length c2, .int .i64 x.room, .int .i64 x.hold, .bool x.closed] 45)).alloc (Obj.cells #[.string ⟨#[]⟩, .string ⟨#[]⟩, .slice none 0 0, .int .i64 0, .int .i64 0, .bool false] 45)) := by go_grown
 clear h1
 go_enter Tryz.func55, Tryz.ntmps55
 go_upto_region 1 with fail
 generalize ((w.alloc (Obj.cells #[.string x.name, .string x.zone, .slice a2 x.marks.length c2, .int .i64 x.room, .int .i64 x.hold, .bool x.closed] 45)).alloc (Obj.cells #[.string ⟨#[]⟩, .string ⟨#[]⟩, .slice none 0 0, .int .i64 0, .int .i64 0, .bool false] 45)) = w2 at *
 have k5 : (w2.alloc (Obj.cells #[] 9)).cell? ⟨w.heap.size, 2, none⟩ = some (.slice a2 x.marks.length c2) := (World.cell?_alloc_lt _ _ _ HK2.out.lt).trans (HK2.out.cell rfl)
 have hba : Below w2.heap.size w2 (w2.alloc (Obj.cells #[] 9)) := (Below.refl _ _).alloc nL _
 have HS5 := iH (HI.out.below StrC.holds (hB2.trans (hba.mono hB2.size)) nL)
 have hgl : w.heap.size + 1 < w2.heap.size := HZ2.out.lt
 clear hba
 go_upto_region 2 with (at_builtin; refine wpList_append_D rfl _ _ 27 rfl w2.heap.size 9 i0 _ 1 16 Tryz.underlying27 hi hz0 hz1 hz2 rfl (by decide) _ _ _ rfl (World.ownsRow_made w2 #[] 0 nL (Nat.zero_le _) rfl) a2 x.marks.length c2 (rvStr x.marks) rfl HS5.out.nilD (by rw [rvStr_len]) (newsOStr HS5.out) (rvStr_one x.marks) (by unfold maxLen; omega) (by omega) (by simp) ?_; intro v' w3 hown hgrow hnil; have hv : v' ≠ .slice none 0 0 := (fun e => by have h9 := (hnil.1 e).1; cases h9); have hown' : w3.ownsRow w2.heap.size 9 1 v' x.marks.length (rvStr x.marks) := (by simpa using hown); obtain ⟨g, q, rfl⟩ := rowf hown' hv; have HOW := iH hown'; have HBB : Hid (Below w2.heap.size w2 w3) := ((Below.refl _ w2).alloc nL _).grown hgrow (by simp) (by intro k hk; cases hk; exact Nat.le_refl _); have HK3 := iH (HK2.out.below HBB.out HK2.out.lt); have kx : w3.cell? ⟨w.heap.size, 2, none⟩ = some (.slice a2 x.marks.length c2) := HK3.out.cell rfl; have fx := HK3.out.frozen 2; clear hown hown' hgrow hnil hv)
 clear kx fx k5 HS5
 obtain ⟨h5, hh5⟩ : ∃ h, h = w2.heap.size := ⟨_, rfl⟩
 have P5 : Hid (SliceC StrC 1 h5 w3 (some ⟨g, 0, none⟩) x.marks) := by rw [hh5]; exact rowslStr HOW.out hl (size_of_Str HI.out)
 have hlt5 : w.heap.size + 1 < h5 := by rw [hh5]; exact hgl
 have hgg := HOW.out.lt g rfl
 have hg5 : h5 ≤ g := by rw [hh5]; exact hgg.1
 have HZ3 := iH (HZ2.out.below HBB.out HZ2.out.lt)
 have hB3 := hB2.trans (HBB.out.mono hB2.size)
 clear HOW HBB HK2 HZ2 hB2 hgl hh5
 have HK4 : Hid (Blk w.heap.size #[.string x.name, .string x.zone, .slice (some ⟨g, 0, none⟩) x.marks.length q, .int .i64 x.room, .int .i64 x.hold, .bool x.closed] 45 (w3.setCell ⟨w.heap.size, 2, none⟩ (.slice (some ⟨g, 0, none⟩) x.marks.length q))) := HK3.out.set 2 _
 have HZ4 : Hid (Blk (w.heap.size + 1) #[.string ⟨#[]⟩, .string ⟨#[]⟩, .slice none 0 0, .int .i64 0, .int .i64 0, .bool false] 45 (w3.setCell ⟨w.heap.size, 2, none⟩ (.slice (some ⟨g, 0, none⟩) x.marks.length q))) := HZ3.out.other (a := ⟨w.heap.size, 2, none⟩) (show w.heap.size + 1 ≠ w.heap.size by omega) _
 have hB4 : Below w.heap.size w (w3.setCell ⟨w.heap.size, 2, none⟩ (.slice (some ⟨g, 0, none⟩) x.marks.length q)) := hB3.setCell (p := ⟨w.heap.size, 2, none⟩) nL _
 replace P5 : Hid (SliceC StrC 1 h5 (w3.setCell ⟨w.heap.size, 2, none⟩ (.slice (some ⟨g, 0, none⟩) x.marks.length q)) (some ⟨g, 0, none⟩) x.marks) := P5.out.keep StrC.holds (Keeps.set (a := ⟨w.heap.size, 2, none⟩) (show w.heap.size < h5 by omega) _) nL
 have hsz : (w3.setCell ⟨w.heap.size, 2, none⟩ (.slice (some ⟨g, 0, none⟩) x.marks.length q)).heap.size = w3.heap.size := by simp [World.setCell]
 have hgs : g < (w3.setCell ⟨w.heap.size, 2, none⟩ (.slice (some ⟨g, 0, none⟩) x.marks.length q)).heap.size := by rw [hsz]; exact hgg.2
 clear HK3 HZ3 hB3 hsz hgg
 generalize (w3.setCell ⟨w.heap.size, 2, none⟩ (.slice (some ⟨g, 0, none⟩) x.marks.length q)) = w4 at *
 obtain ⟨wf, HE⟩ : ∃ wf, Hid (wf = w4.setCells (w.heap.size + 1) 0 [.string x.name, .string x.zone, .slice (some ⟨g, 0, none⟩) x.marks.length q, .int .i64 x.room, .int .i64 x.hold, .bool x.closed]) := ⟨_, rfl⟩
 have HTS : Hid (w4.there (w.heap.size + 1) 0 6) := HZ4.out.there
 have HRf : Hid (wf.rangeAt (w.heap.size + 1) 0 [.string x.name, .string x.zone, .slice (some ⟨g, 0, none⟩) x.marks.length q, .int .i64 x.room, .int .i64 x.hold, .bool x.closed]) := by
  show World.rangeAt _ _ _ _
  rw [HE.out]
  exact World.rangeAt_setCells_same w4 (w.heap.size + 1) 0 _ HTS.out
 have hBf : Below w.heap.size w wf := by
  rw [HE.out]
  exact below_setCells (by omega) _ _ _ hB4
 replace P5 : Hid (SliceC StrC 1 h5 wf (some ⟨g, 0, none⟩) x.marks) := by
  show SliceC _ _ _ _ _ _
  rw [HE.out]
  exact P5.out.keep StrC.holds (Keeps.setCells (show w.heap.size + 1 < h5 by omega) _ _ _) nL
 have hgf : g < wf.heap.size := by rw [HE.out, size_setCells]; exact hgs
 clear hB4 HZ4 hgs
 go_wp2_with (first | (refine wpList_load_mid rfl 45 _ rfl w.heap.size 0 rfl [.string x.name, .string x.zone, .slice (some ⟨g, 0, none⟩) x.marks.length q, .int .i64 x.room, .int .i64 x.hold, .bool x.closed] _ HK4.out.rangeA Tryz.underlying45 rfl isz_Brt ?_) | (refine wpList_store_to rfl 45 _ _ rfl (w.heap.size + 1) 0 #[.string x.name, .string x.zone, .slice (some ⟨g, 0, none⟩) x.marks.length q, .int .i64 x.room, .int .i64 x.hold, .bool x.closed] rfl rfl HTS.out isz_Brt (by simp [Value.oneCell']) wf HE.out ?_))
 exact bodyPost_ret (results_cell_mid rfl _ _ (w.heap.size + 1) [.string x.name, .string x.zone, .slice (some ⟨g, 0, none⟩) x.marks.length q, .int .i64 x.room, .int .i64 x.hold, .bool x.closed] _ rfl HRf.out Tryz.underlying45 rfl isz_Brt) rfl ⟨g, q, rfl, P5.out.keep StrC.holds (Keeps.refl _ _) (by omega), by omega, hgf, hBf⟩

set_option maxHeartbeats 8000000 in
set_option maxRecDepth 100000 in
theorem copyOf_any (x : Cpy) (a2 : Option Addr) (c2 lo : Nat) (w : World) (n2 : SliceC LikC 2 lo w a2 x.likes) (hl : x.likes.length ≤ 1048576) :
  Calls Tryz.prog 56 #[.agg #[.string x.name, .string x.service, .int .i64 x.rank, .int .i64 x.born, .int .i64 x.room, .int .i64 x.hold, .string x.select, .slice a2 x.likes.length c2, .int .i64 x.apart, .string x.near, .string x.fixed, .string x.at_]] w fun e w' => ∃ g q, e = .returned (.agg #[.string x.name, .string x.service, .int .i64 x.rank, .int .i64 x.born, .int .i64 x.room, .int .i64 x.hold, .string x.select, .slice (some ⟨g, 0, none⟩) x.likes.length q, .int .i64 x.apart, .string x.near, .string x.fixed, .string x.at_]) ∧ SliceC LikC 2 w.heap.size w' (some ⟨g, 0, none⟩) x.likes ∧ w.heap.size ≤ g ∧ g < w'.heap.size ∧ Below w.heap.size w w' := by
 obtain ⟨i0, hi, hz0, hz1, hz2⟩ := info_parts info_Lik
 have HI := iH n2
 clear n2
 have h1 : Blk w.heap.size #[.string x.name, .string x.service, .int .i64 x.rank, .int .i64 x.born, .int .i64 x.room, .int .i64 x.hold, .string x.select, .slice a2 x.likes.length c2, .int .i64 x.apart, .string x.near, .string x.fixed, .string x.at_] 48 (w.alloc (Obj.cells #[.string x.name, .string x.service, .int .i64 x.rank, .int .i64 x.born, .int .i64 x.room, .int .i64 x.hold, .string x.select, .slice a2 x.likes.length c2, .int .i64 x.apart, .string x.near, .string x.fixed, .string x.at_] 48)) := Blk.alloc _ _ _
 have HZ2 : Hid (Blk (w.heap.size + 1) #[.string ⟨#[]⟩, .string ⟨#[]⟩, .int .i64 0, .int .i64 0, .int .i64 0, .int .i64 0, .string ⟨#[]⟩, .slice none 0 0, .int .i64 0, .string ⟨#[]⟩, .string ⟨#[]⟩, .string ⟨#[]⟩] 48 ((w.alloc (Obj.cells #[.string x.name, .string x.service, .int .i64 x.rank, .int .i64 x.born, .int .i64 x.room, .int .i64 x.hold, .string x.select, .slice a2 x.likes.length c2, .int .i64 x.apart, .string x.near, .string x.fixed, .string x.at_] 48)).alloc (Obj.cells #[.string ⟨#[]⟩, .string ⟨#[]⟩, .int .i64 0, .int .i64 0, .int .i64 0, .int .i64 0, .string ⟨#[]⟩, .slice none 0 0, .int .i64 0, .string ⟨#[]⟩, .string ⟨#[]⟩, .string ⟨#[]⟩] 48))) := by
  have := Blk.alloc (w.alloc (Obj.cells #[.string x.name, .string x.service, .int .i64 x.rank, .int .i64 x.born, .int .i64 x.room, .int .i64 x.hold, .string x.select, .slice a2 x.likes.length c2, .int .i64 x.apart, .string x.near, .string x.fixed, .string x.at_] 48)) #[.string ⟨#[]⟩, .string ⟨#[]⟩, .int .i64 0, .int .i64 0, .int .i64 0, .int .i64 0, .string ⟨#[]⟩, .slice none 0 0, .int .i64 0, .string ⟨#[]⟩, .string ⟨#[]⟩, .string ⟨#[]⟩] 48
  show Blk _ _ _ _
  simpa using this
 have HK2 : Hid (Blk w.heap.size #[.string x.name, .string x.service, .int .i64 x.rank, .int .i64 x.born, .int .i64 x.room, .int .i64 x.hold, .string x.select, .slice a2 x.likes.length c2, .int .i64 x.apart, .string x.near, .string x.fixed, .string x.at_] 48 ((w.alloc (Obj.cells #[.string x.name, .string x.service, .int .i64 x.rank, .int .i64 x.born, .int .i64 x.room, .int .i64 x.hold, .string x.select, .slice a2 x.likes.length c2, .int .i64 x.apart, .string x.near, .string x.fixed, .string x.at_] 48)).alloc (Obj.cells #[.string ⟨#[]⟩, .string ⟨#[]⟩, .int .i64 0, .int .i64 0, .int .i64 0, .int .i64 0, .string ⟨#[]⟩, .slice none 0 0, .int .i64 0, .string ⟨#[]⟩, .string ⟨#[]⟩, .string ⟨#[]⟩] 48))) := h1.below ((Below.refl _ _).alloc nL _) h1.lt
 have hB2 : Below w.heap.size w ((w.alloc (Obj.cells #[.string x.name, .string x.service, .int .i64 x.rank, .int .i64 x.born, .int .i64 x.room, .int .i64 x.hold, .string x.select, .slice a2 x.likes.length c2, .int .i64 x.apart, .string x.near, .string x.fixed, .string x.at_] 48)).alloc (Obj.cells #[.string ⟨#[]⟩, .string ⟨#[]⟩, .int .i64 0, .int .i64 0, .int .i64 0, .int .i64 0, .string ⟨#[]⟩, .slice none 0 0, .int .i64 0, .string ⟨#[]⟩, .string ⟨#[]⟩, .string ⟨#[]⟩] 48)) := by go_grown
 clear h1
 go_enter Tryz.func56, Tryz.ntmps56
 go_upto_region 1 with fail
 generalize ((w.alloc (Obj.cells #[.string x.name, .string x.service, .int .i64 x.rank, .int .i64 x.born, .int .i64 x.room, .int .i64 x.hold, .string x.select, .slice a2 x.likes.length c2, .int .i64 x.apart, .string x.near, .string x.fixed, .string x.at_] 48)).alloc (Obj.cells #[.string ⟨#[]⟩, .string ⟨#[]⟩, .int .i64 0, .int .i64 0, .int .i64 0, .int .i64 0, .string ⟨#[]⟩, .slice none 0 0, .int .i64 0, .string ⟨#[]⟩, .string ⟨#[]⟩, .string ⟨#[]⟩] 48)) = w2 at *
 have k5 : (w2.alloc (Obj.cells #[] 125)).cell? ⟨w.heap.size, 7, none⟩ = some (.slice a2 x.likes.length c2) := (World.cell?_alloc_lt _ _ _ HK2.out.lt).trans (HK2.out.cell rfl)
 have hba : Below w2.heap.size w2 (w2.alloc (Obj.cells #[] 125)) := (Below.refl _ _).alloc nL _
 have HS5 := iH (HI.out.below LikC.holds (hB2.trans (hba.mono hB2.size)) nL)
 have hgl : w.heap.size + 1 < w2.heap.size := HZ2.out.lt
 clear hba
 go_upto_region 2 with (at_builtin; refine wpList_append_D rfl _ _ 46 rfl w2.heap.size 125 i0 _ 2 24 Tryz.underlying46 hi hz0 hz1 hz2 rfl (by decide) _ _ _ rfl (World.ownsRow_made w2 #[] 0 nL (Nat.zero_le _) rfl) a2 x.likes.length c2 (rvLik x.likes) rfl HS5.out.nilD (by rw [rvLik_len]) (newsOLik HS5.out) (rvLik_one x.likes) (by unfold maxLen; omega) (by omega) (by simp) ?_; intro v' w3 hown hgrow hnil; have hv : v' ≠ .slice none 0 0 := (fun e => by have h9 := (hnil.1 e).1; cases h9); have hown' : w3.ownsRow w2.heap.size 125 2 v' x.likes.length (rvLik x.likes) := (by simpa using hown); obtain ⟨g, q, rfl⟩ := rowf hown' hv; have HOW := iH hown'; have HBB : Hid (Below w2.heap.size w2 w3) := ((Below.refl _ w2).alloc nL _).grown hgrow (by simp) (by intro k hk; cases hk; exact Nat.le_refl _); have HK3 := iH (HK2.out.below HBB.out HK2.out.lt); have kx : w3.cell? ⟨w.heap.size, 7, none⟩ = some (.slice a2 x.likes.length c2) := HK3.out.cell rfl; have fx := HK3.out.frozen 7; clear hown hown' hgrow hnil hv)
 clear kx fx k5 HS5
 obtain ⟨h5, hh5⟩ : ∃ h, h = w2.heap.size := ⟨_, rfl⟩
 have P5 : Hid (SliceC LikC 2 h5 w3 (some ⟨g, 0, none⟩) x.likes) := by rw [hh5]; exact rowslLik HOW.out hl (size_of_Lik HI.out)
 have hlt5 : w.heap.size + 1 < h5 := by rw [hh5]; exact hgl
 have hgg := HOW.out.lt g rfl
 have hg5 : h5 ≤ g := by rw [hh5]; exact hgg.1
 have HZ3 := iH (HZ2.out.below HBB.out HZ2.out.lt)
 have hB3 := hB2.trans (HBB.out.mono hB2.size)
 clear HOW HBB HK2 HZ2 hB2 hgl hh5
 have HK4 : Hid (Blk w.heap.size #[.string x.name, .string x.service, .int .i64 x.rank, .int .i64 x.born, .int .i64 x.room, .int .i64 x.hold, .string x.select, .slice (some ⟨g, 0, none⟩) x.likes.length q, .int .i64 x.apart, .string x.near, .string x.fixed, .string x.at_] 48 (w3.setCell ⟨w.heap.size, 7, none⟩ (.slice (some ⟨g, 0, none⟩) x.likes.length q))) := HK3.out.set 7 _
 have HZ4 : Hid (Blk (w.heap.size + 1) #[.string ⟨#[]⟩, .string ⟨#[]⟩, .int .i64 0, .int .i64 0, .int .i64 0, .int .i64 0, .string ⟨#[]⟩, .slice none 0 0, .int .i64 0, .string ⟨#[]⟩, .string ⟨#[]⟩, .string ⟨#[]⟩] 48 (w3.setCell ⟨w.heap.size, 7, none⟩ (.slice (some ⟨g, 0, none⟩) x.likes.length q))) := HZ3.out.other (a := ⟨w.heap.size, 7, none⟩) (show w.heap.size + 1 ≠ w.heap.size by omega) _
 have hB4 : Below w.heap.size w (w3.setCell ⟨w.heap.size, 7, none⟩ (.slice (some ⟨g, 0, none⟩) x.likes.length q)) := hB3.setCell (p := ⟨w.heap.size, 7, none⟩) nL _
 replace P5 : Hid (SliceC LikC 2 h5 (w3.setCell ⟨w.heap.size, 7, none⟩ (.slice (some ⟨g, 0, none⟩) x.likes.length q)) (some ⟨g, 0, none⟩) x.likes) := P5.out.keep LikC.holds (Keeps.set (a := ⟨w.heap.size, 7, none⟩) (show w.heap.size < h5 by omega) _) nL
 have hsz : (w3.setCell ⟨w.heap.size, 7, none⟩ (.slice (some ⟨g, 0, none⟩) x.likes.length q)).heap.size = w3.heap.size := by simp [World.setCell]
 have hgs : g < (w3.setCell ⟨w.heap.size, 7, none⟩ (.slice (some ⟨g, 0, none⟩) x.likes.length q)).heap.size := by rw [hsz]; exact hgg.2
 clear HK3 HZ3 hB3 hsz hgg
 generalize (w3.setCell ⟨w.heap.size, 7, none⟩ (.slice (some ⟨g, 0, none⟩) x.likes.length q)) = w4 at *
 obtain ⟨wf, HE⟩ : ∃ wf, Hid (wf = w4.setCells (w.heap.size + 1) 0 [.string x.name, .string x.service, .int .i64 x.rank, .int .i64 x.born, .int .i64 x.room, .int .i64 x.hold, .string x.select, .slice (some ⟨g, 0, none⟩) x.likes.length q, .int .i64 x.apart, .string x.near, .string x.fixed, .string x.at_]) := ⟨_, rfl⟩
 have HTS : Hid (w4.there (w.heap.size + 1) 0 12) := HZ4.out.there
 have HRf : Hid (wf.rangeAt (w.heap.size + 1) 0 [.string x.name, .string x.service, .int .i64 x.rank, .int .i64 x.born, .int .i64 x.room, .int .i64 x.hold, .string x.select, .slice (some ⟨g, 0, none⟩) x.likes.length q, .int .i64 x.apart, .string x.near, .string x.fixed, .string x.at_]) := by
  show World.rangeAt _ _ _ _
  rw [HE.out]
  exact World.rangeAt_setCells_same w4 (w.heap.size + 1) 0 _ HTS.out
 have hBf : Below w.heap.size w wf := by
  rw [HE.out]
  exact below_setCells (by omega) _ _ _ hB4
 replace P5 : Hid (SliceC LikC 2 h5 wf (some ⟨g, 0, none⟩) x.likes) := by
  show SliceC _ _ _ _ _ _
  rw [HE.out]
  exact P5.out.keep LikC.holds (Keeps.setCells (show w.heap.size + 1 < h5 by omega) _ _ _) nL
 have hgf : g < wf.heap.size := by rw [HE.out, size_setCells]; exact hgs
 clear hB4 HZ4 hgs
 go_wp2_with (first | (refine wpList_load_mid rfl 48 _ rfl w.heap.size 0 rfl [.string x.name, .string x.service, .int .i64 x.rank, .int .i64 x.born, .int .i64 x.room, .int .i64 x.hold, .string x.select, .slice (some ⟨g, 0, none⟩) x.likes.length q, .int .i64 x.apart, .string x.near, .string x.fixed, .string x.at_] _ HK4.out.rangeA Tryz.underlying48 rfl isz_Cpy ?_) | (refine wpList_store_to rfl 48 _ _ rfl (w.heap.size + 1) 0 #[.string x.name, .string x.service, .int .i64 x.rank, .int .i64 x.born, .int .i64 x.room, .int .i64 x.hold, .string x.select, .slice (some ⟨g, 0, none⟩) x.likes.length q, .int .i64 x.apart, .string x.near, .string x.fixed, .string x.at_] rfl rfl HTS.out isz_Cpy (by simp [Value.oneCell']) wf HE.out ?_))
 exact bodyPost_ret (results_cell_mid rfl _ _ (w.heap.size + 1) [.string x.name, .string x.service, .int .i64 x.rank, .int .i64 x.born, .int .i64 x.room, .int .i64 x.hold, .string x.select, .slice (some ⟨g, 0, none⟩) x.likes.length q, .int .i64 x.apart, .string x.near, .string x.fixed, .string x.at_] _ rfl HRf.out Tryz.underlying48 rfl isz_Cpy) rfl ⟨g, q, rfl, P5.out.keep LikC.holds (Keeps.refl _ _) (by omega), by omega, hgf, hBf⟩

end Go.Proofs.YtihnjndnkgnmaaaGreat
