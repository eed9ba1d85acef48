import Derived.Test.YtnggdpjfmpjlhaaGreatShp
import Derived.RangeFuncRecord
import Derived.Test.YtnggdpjfmpjlhaaGreatSbk
import Derived.Laws.Cover1
namespace Go.Proofs.YtnggdpjfmpjlhaaGreat
open Go.RowKit

def Blk (g : Nat) (cs : Array Value) (t : TypeId) (w : World) : Prop := w.heap[g]? = some (.cells cs t (0, 0))

theorem Blk.lt {g : Nat} {cs : Array Value} {t : TypeId} {w : World} (h : Blk g cs t w) : g < w.heap.size := (Array.getElem?_eq_some_iff.1 h).1
theorem Blk.below {g : Nat} {cs : Array Value} {t : TypeId} {w w' : World} {B : Nat} (h : Blk g cs t w) (hb : Below B w w') (hB : g < B) : Blk g cs t w' := (hb.block g hB).trans h
theorem Blk.drew {g : Nat} {cs : Array Value} {t : TypeId} {w : World} (h : Blk g cs t w) : Blk g cs t w.drew := h
theorem Blk.cell {g : Nat} {cs : Array Value} {t : TypeId} {w : World} (h : Blk g cs t w) {o : Nat} {v : Value} (hv : cs[o]? = some v) : w.cell? ⟨g, o, none⟩ = some v := by simp [World.cell?, show w.heap[g]? = _ from h, hv]
theorem Blk.frozen {g : Nat} {cs : Array Value} {t : TypeId} {w : World} (h : Blk g cs t w) (o : Nat) : w.frozen? ⟨g, o, none⟩ = false := by simp [World.frozen?, show w.heap[g]? = _ from h]
theorem Blk.range {g : Nat} {cs : List Value} {t : TypeId} {w : World} (h : Blk g cs.toArray t w) : w.rangeAt g 0 cs := fun j v hj => by rw [Nat.zero_add]; exact h.cell (by simpa using hj)
theorem Blk.alloc (w : World) (cs : Array Value) (t : TypeId) : Blk w.heap.size cs t (w.alloc (.cells cs t)) := World.alloc_heap_new w _
theorem Blk.other {g : Nat} {cs : Array Value} {t : TypeId} {w : World} (h : Blk g cs t w) {a : Addr} (hne : g ≠ a.block) (v : Value) : Blk g cs t (w.setCell a v) := (Below.heap_setCell w a v g hne).trans h
theorem Blk.set {g : Nat} {cs : Array Value} {t : TypeId} {w : World} (h : Blk g cs t w) (o : Nat) (v : Value) : Blk g (cs.setIfInBounds o v) t (w.setCell ⟨g, o, none⟩ v) := by
 obtain ⟨hlt, hk⟩ := Array.getElem?_eq_some_iff.1 h
 show (w.heap.modify g _)[g]? = _
 rw [Array.getElem?_eq_getElem (by rw [Array.size_modify]; exact hlt), Array.getElem_modify_self, hk]
 rfl

theorem Blk.there {g : Nat} {cs : Array Value} {t : TypeId} {w : World} (h : Blk g cs t w) : w.there g 0 cs.size := fun j hj => by
 refine ⟨?_, h.frozen _⟩
 rw [h.cell (o := 0 + j) (v := cs[j]) (by simp [hj])]
 rfl

theorem Blk.rangeA {g : Nat} {cs : Array Value} {t : TypeId} {w : World} (h : Blk g cs t w) : w.rangeAt g 0 cs.toList := fun j v hj => by
 rw [Nat.zero_add]
 exact h.cell (by simpa using hj)

end Go.Proofs.YtnggdpjfmpjlhaaGreat

namespace Go.Proofs.YtnggdpjfmpjlhaaGreat
open Go.RowKit

def setRow (cs : Array Value) : Nat → List Value → Array Value
 | _, [] => cs
 | o, v :: r => setRow (cs.setIfInBounds o v) (o + 1) r

theorem take_set_succ (v : Value) : ∀ (l : List Value) (o : Nat), o < l.length → (l.set o v).take (o + 1) = l.take o ++ [v]
 | [], _, h => by simp at h
 | a :: l, 0, _ => by simp
 | a :: l, o + 1, h => by
  have ih := take_set_succ v l o (by simpa using h)
  simp [ih]

theorem setRow_list : ∀ (vs : List Value) (cs : Array Value) (o : Nat), o + vs.length = cs.size → (setRow cs o vs).toList = cs.toList.take o ++ vs
 | [], cs, o, h => by
  have : cs.toList.length ≤ o := by simp at h; simp; omega
  simp [setRow, List.take_of_length_le this]
 | v :: r, cs, o, h => by
  have h' : o + (r.length + 1) = cs.size := by simpa using h
  have ih := setRow_list r (cs.setIfInBounds o v) (o + 1) (by simp; omega)
  simp only [setRow]
  rw [ih, Array.toList_setIfInBounds, take_set_succ v _ _ (by simp; omega)]
  simp

theorem setRow_all (vs : List Value) (cs : Array Value) (h : vs.length = cs.size) : setRow cs 0 vs = vs.toArray := by
 have := setRow_list vs cs 0 (by omega)
 apply Array.toList_inj.1
 rw [this]
 simp

theorem Blk.setRow {g : Nat} {t : TypeId} : ∀ (vs : List Value) (o : Nat) (cs : Array Value) (w : World), Blk g cs t w → Blk g (setRow cs o vs) t (w.setCells g o vs)
 | [], _, _, _, h => h
 | v :: r, o, _, _, h => Blk.setRow r (o + 1) _ _ (h.set o v)

theorem Blk.setAll {g : Nat} {cs : Array Value} {t : TypeId} {w : World} (h : Blk g cs t w) (vs : Array Value) (hl : vs.size = cs.size) : Blk g vs t (w.setCells g 0 vs.toList) := by
 have := h.setRow vs.toList 0
 rw [setRow_all vs.toList cs (by simpa using hl)] at this
 simpa using this

theorem Blk.grown {g : Nat} {cs : Array Value} {t : TypeId} {w w' : World} {row : Option Nat} (h : Blk g cs t w) (hg : w.grownBy w' row) (hr : some g ≠ row) : Blk g cs t w' := (hg.block g h.lt hr).trans h

theorem blk_setCells_other {g b : Nat} {cs : Array Value} {t : TypeId} (hne : g ≠ b) : ∀ (vs : List Value) (o : Nat) (w : World), Blk g cs t w → Blk g cs t (w.setCells b o vs)
 | [], _, _, h => h
 | v :: r, o, _, h => blk_setCells_other hne r (o + 1) _ (h.other (a := ⟨b, o, none⟩) hne v)

end Go.Proofs.YtnggdpjfmpjlhaaGreat

namespace Go.Proofs.YtnggdpjfmpjlhaaGreat
open Go.RowKit

theorem bt_ne {a b : ByteArray} (h : ¬ a = b) : (a.toList == b.toList) = false := by
 rw [ByteArray.toList_eq, ByteArray.toList_eq]
 have : ¬ a.data.toList = b.data.toList := fun e => h (by
  cases a with | mk x => cases b with | mk y => cases x; cases y; simp at e; simp [e])
 simpa using this

theorem bt_eq {a b : ByteArray} (h : a = b) : (a.toList == b.toList) = true := by subst h; simp

def inR (n a b : Int) : Bool := decide (a ≤ n) && decide (n ≤ b)

theorem inR_yes {n a b : Int} (h : a ≤ n) (h2 : n ≤ b) : inR n a b = true := by simp [inR, h, h2]
theorem inR_lo {n a b : Int} (h : n < a) : inR n a b = false := by simp [inR]; intro; omega
theorem inR_hi {n a b : Int} (h : b < n) : inR n a b = false := by simp [inR]; intro; omega

set_option maxHeartbeats 400000 in
theorem in18_any (n a b : Int) (w : World) :
  Calls Tryz.prog 38 #[.int .i64 n, .int .i64 a, .int .i64 b] w fun e w' => e = .returned (.bool (inR n a b)) ∧ w' = w := by
 by_cases h1 : a ≤ n
 ·by_cases h2 : n ≤ b
  ·have HC : Hid (inR n a b = true) := inR_yes h1 h2
   go_enter Tryz.func38, Tryz.ntmps38
   go_wp2_with fail
   go_ret
   exact ⟨ret_bool HC.out.symm, rfl⟩
  ·have h2' : b < n := by omega
   have HC : Hid (inR n a b = false) := inR_hi h2'
   clear h2
   go_enter Tryz.func38, Tryz.ntmps38
   go_wp2_with fail
   go_ret
   exact ⟨ret_bool (by rw [HC.out]; simp; omega), rfl⟩
 ·have h1' : n < a := by omega
  have HC : Hid (inR n a b = false) := inR_lo h1'
  clear h1
  go_enter Tryz.func38, Tryz.ntmps38
  go_wp2_with fail
  go_ret
  exact ⟨ret_bool HC.out.symm, rfl⟩

def snm (c : UInt8) : Bool := decide ((97 ≤ c.toNat ∧ c.toNat ≤ 122) ∨ (48 ≤ c.toNat ∧ c.toNat ≤ 57) ∨ c.toNat = 45)

def snB (s : ByteArray) : Bool := decide (1 ≤ s.size ∧ s.size ≤ 20) && s.data.toList.all snm

theorem snB_size {s : ByteArray} (h : ¬ (1 ≤ s.size ∧ s.size ≤ 20)) : snB s = false := by
 unfold snB
 rw [decide_eq_false h, Bool.false_and]

theorem snB_yes {s : ByteArray} (h : 1 ≤ s.size ∧ s.size ≤ 20) (hl : (s.data.toList.take s.size).all snm = true) : snB s = true := by
 unfold snB
 rw [List.take_of_length_le (by simp)] at hl
 rw [decide_eq_true h, hl]; rfl

theorem snB_no {s : ByteArray} {k : Nat} (hk : k < s.size) (h : snm s[k] = false) : snB s = false := by
 unfold snB
 have : s.data.toList.all snm = false := by
  rw [List.all_eq_false]
  exact ⟨s[k], by simp [ByteArray.getElem_eq_getElem_data], by simp [h]⟩
 rw [this, Bool.and_false]

theorem take_snocB (s : ByteArray) (k : Nat) (h : k < s.size) : s.data.toList.take (k + 1) = s.data.toList.take k ++ [s[k]] := by
 have hl : k < s.data.toList.length := by simpa using h
 rw [List.take_add_one, List.getElem?_eq_getElem hl]
 rfl

set_option maxHeartbeats 2000000 in
theorem name18_any (s : ByteArray) (w : World) (hs : s.size ≤ maxLen) :
  Calls Tryz.prog 40 #[.string s] w fun e w' => e = .returned (.bool (snB s)) ∧ w' = w := by
 unfold maxLen at hs
 by_cases hsz : 1 ≤ s.size ∧ s.size ≤ 20
 ·obtain ⟨h1, h2⟩ := hsz
  have hin : inR s.size 1 20 = true := inR_yes (by omega) (by omega)
  go_enter Tryz.func40, Tryz.ntmps40
  go_wp2_with (go_at_call 38; refine (in18_any _ _ _ _).mono ?_; rintro e w' ⟨rfl, rfl⟩; rw [hin])
  go_loop [3] (fun i => ∃ k : Nat, k ≤ s.size ∧ i = .int .i64 k ∧ Hid ((s.data.toList.take k).all snm = true)) (fun i => s.size - (intOf i).toNat)
  case atStart => exact ⟨0, Nat.zero_le _, rfl, rfl⟩
  case round =>
   obtain ⟨k, hk, rfl, HA⟩ := hrel
   by_cases hlt : k < s.size
   ·have hc : s[k].toNat < 256 := s[k].toNat_lt
    rcases (by omega : (97 ≤ s[k].toNat ∧ s[k].toNat ≤ 122) ∨ (48 ≤ s[k].toNat ∧ s[k].toNat ≤ 57) ∨ (s[k].toNat = 45) ∨ (122 < s[k].toNat) ∨ (57 < s[k].toNat ∧ s[k].toNat < 97) ∨ (s[k].toNat < 48 ∧ ¬ s[k].toNat = 45)) with c1 | c1 | c1 | c1 | c1 | c1
    ·skip
     have HL : Hid (snm s[k] = true) := by show _ = _; unfold snm; simp; omega
     have i0 : (97 : Int) ≤ (s[k].toNat : Int) := by omega
     have i1 : (s[k].toNat : Int) ≤ 122 := by omega
     have HT : Hid ((s.data.toList.take (k + 1)).all snm = true) := by
      show _ = true
      rw [take_snocB s k hlt, List.all_append, HA.out]; simp [HL.out]
     clear c1
     go_wp2_with fail
     go_round
     case rel => exact ⟨k + 1, by omega, by go_num, HT⟩
     case measure => simp [intOf]; omega
    ·skip
     have HL : Hid (snm s[k] = true) := by show _ = _; unfold snm; simp; omega
     have i0 : (s[k].toNat : Int) < 97 := by omega
     have i1 : (48 : Int) ≤ (s[k].toNat : Int) := by omega
     have i2 : (s[k].toNat : Int) ≤ 57 := by omega
     have HT : Hid ((s.data.toList.take (k + 1)).all snm = true) := by
      show _ = true
      rw [take_snocB s k hlt, List.all_append, HA.out]; simp [HL.out]
     clear c1
     go_wp2_with fail
     go_round
     case rel => exact ⟨k + 1, by omega, by go_num, HT⟩
     case measure => simp [intOf]; omega
    ·skip
     have HL : Hid (snm s[k] = true) := by show _ = _; unfold snm; simp; omega
     have i0 : (s[k].toNat : Int) < 97 := by omega
     have i1 : (s[k].toNat : Int) < 48 := by omega
     have i2 : (s[k].toNat : Int) = 45 := by omega
     have HT : Hid ((s.data.toList.take (k + 1)).all snm = true) := by
      show _ = true
      rw [take_snocB s k hlt, List.all_append, HA.out]; simp [HL.out]
     clear c1
     go_wp2_with fail
     go_round
     case rel => exact ⟨k + 1, by omega, by go_num, HT⟩
     case measure => simp [intOf]; omega
    ·skip
     have HN : Hid (snB s = false) := snB_no hlt (by unfold snm; simp; omega)
     have i0 : (97 : Int) ≤ (s[k].toNat : Int) := by omega
     have i1 : (122 : Int) < (s[k].toNat : Int) := by omega
     have i2 : (48 : Int) ≤ (s[k].toNat : Int) := by omega
     have i3 : (57 : Int) < (s[k].toNat : Int) := by omega
     have i4 : ¬ (s[k].toNat : Int) = 45 := by omega
     have j0 : decide ((s[k].toNat : Int) ≤ 122) = false := by simp; omega
     have j1 : decide ((s[k].toNat : Int) ≤ 57) = false := by simp; omega
     have j2 : ((s[k].toNat : Int) == 45) = false := by simp; omega
     clear c1
     go_wp2_with fail
     go_ret
     exact ⟨ret_bool HN.out.symm, rfl⟩
    ·skip
     have HN : Hid (snB s = false) := snB_no hlt (by unfold snm; simp; omega)
     have i0 : (s[k].toNat : Int) < 97 := by omega
     have i1 : (48 : Int) ≤ (s[k].toNat : Int) := by omega
     have i2 : (57 : Int) < (s[k].toNat : Int) := by omega
     have i3 : ¬ (s[k].toNat : Int) = 45 := by omega
     have j0 : decide ((s[k].toNat : Int) ≤ 57) = false := by simp; omega
     have j1 : ((s[k].toNat : Int) == 45) = false := by simp; omega
     clear c1
     go_wp2_with fail
     go_ret
     exact ⟨ret_bool HN.out.symm, rfl⟩
    ·skip
     have HN : Hid (snB s = false) := snB_no hlt (by unfold snm; simp; omega)
     have i0 : (s[k].toNat : Int) < 97 := by omega
     have i1 : (s[k].toNat : Int) < 48 := by omega
     have i2 : ¬ (s[k].toNat : Int) = 45 := by omega
     have j0 : ((s[k].toNat : Int) == 45) = false := by simp; omega
     clear c1
     go_wp2_with fail
     go_ret
     exact ⟨ret_bool HN.out.symm, rfl⟩
   ·go_wp2_with fail
    go_ret
    have hke : k = s.size := by omega
    exact ⟨ret_bool (snB_yes ⟨h1, h2⟩ (by rw [← hke]; exact HA.out)).symm, rfl⟩
 ·have hin : inR s.size 1 20 = false := by
   by_cases h : (s.size : Int) < 1
   ·exact inR_lo h
   ·exact inR_hi (by omega)
  have HN : Hid (snB s = false) := snB_size hsz
  clear hsz
  go_enter Tryz.func40, Tryz.ntmps40
  go_wp2_with (go_at_call 38; refine (in18_any _ _ _ _).mono ?_; rintro e w' ⟨rfl, rfl⟩; rw [hin])
  go_ret
  exact ⟨ret_bool HN.out.symm, rfl⟩

def sldB (x : Ssv) : Bool := if x.per = 0 then (x.least == 0 && x.most == 0 && x.load == 0 && x.cool == 0) else (inR x.per 0 1000000 && inR x.load 0 1000000 && inR x.least 0 10 && inR x.most x.least 10 && inR x.cool 0 3)

def svB (x : Ssv) (now : Int) : Bool := snB x.name && inR x.version 1 now && inR x.image 1 1000000 && inR x.next 1 1000000 && inR x.want 0 10 && inR x.down 0 10 && inR x.over 0 10 && !(x.down + x.over == 0) && sldB x

set_option maxHeartbeats 4000000 in
set_option maxRecDepth 100000 in
theorem service18_any (x : Ssv) (now : Int) (w : World) (z0 : x.name.size ≤ maxLen) :
  Calls Tryz.prog 39 #[.agg #[.string x.name, .int .i64 x.version, .bool x.gone, .int .i64 x.image, .int .i64 x.want, .int .i64 x.down, .int .i64 x.over, .int .i64 x.next, .int .i64 x.per, .int .i64 x.least, .int .i64 x.most, .int .i64 x.load, .int .i64 x.cool], .int .i64 now] w fun e w' => e = .returned (.bool (svB x now)) ∧ Below w.heap.size w w' := by
 have hB1 : Below w.heap.size w (w.alloc (Obj.cells #[.string x.name, .int .i64 x.version, .bool x.gone, .int .i64 x.image, .int .i64 x.want, .int .i64 x.down, .int .i64 x.over, .int .i64 x.next, .int .i64 x.per, .int .i64 x.least, .int .i64 x.most, .int .i64 x.load, .int .i64 x.cool] 50)) := by go_grown
 have HK : Hid (Blk w.heap.size #[.string x.name, .int .i64 x.version, .bool x.gone, .int .i64 x.image, .int .i64 x.want, .int .i64 x.down, .int .i64 x.over, .int .i64 x.next, .int .i64 x.per, .int .i64 x.least, .int .i64 x.most, .int .i64 x.load, .int .i64 x.cool] 50 (w.alloc (Obj.cells #[.string x.name, .int .i64 x.version, .bool x.gone, .int .i64 x.image, .int .i64 x.want, .int .i64 x.down, .int .i64 x.over, .int .i64 x.next, .int .i64 x.per, .int .i64 x.least, .int .i64 x.most, .int .i64 x.load, .int .i64 x.cool] 50))) := Blk.alloc _ _ _
 go_enter Tryz.func39, Tryz.ntmps39
 go_upto_region 1 with fail
 generalize w.alloc (Obj.cells #[.string x.name, .int .i64 x.version, .bool x.gone, .int .i64 x.image, .int .i64 x.want, .int .i64 x.down, .int .i64 x.over, .int .i64 x.next, .int .i64 x.per, .int .i64 x.least, .int .i64 x.most, .int .i64 x.load, .int .i64 x.cool] 50) = w1 at *
 have k0 : w1.cell? ⟨w.heap.size, 0, none⟩ = some (.string x.name) := HK.out.cell rfl
 have k1 : w1.cell? ⟨w.heap.size, 1, none⟩ = some (.int .i64 x.version) := HK.out.cell rfl
 have k2 : w1.cell? ⟨w.heap.size, 2, none⟩ = some (.bool x.gone) := HK.out.cell rfl
 have k3 : w1.cell? ⟨w.heap.size, 3, none⟩ = some (.int .i64 x.image) := HK.out.cell rfl
 have k4 : w1.cell? ⟨w.heap.size, 4, none⟩ = some (.int .i64 x.want) := HK.out.cell rfl
 have k5 : w1.cell? ⟨w.heap.size, 5, none⟩ = some (.int .i64 x.down) := HK.out.cell rfl
 have k6 : w1.cell? ⟨w.heap.size, 6, none⟩ = some (.int .i64 x.over) := HK.out.cell rfl
 have k7 : w1.cell? ⟨w.heap.size, 7, none⟩ = some (.int .i64 x.next) := HK.out.cell rfl
 have k8 : w1.cell? ⟨w.heap.size, 8, none⟩ = some (.int .i64 x.per) := HK.out.cell rfl
 have k9 : w1.cell? ⟨w.heap.size, 9, none⟩ = some (.int .i64 x.least) := HK.out.cell rfl
 have k10 : w1.cell? ⟨w.heap.size, 10, none⟩ = some (.int .i64 x.most) := HK.out.cell rfl
 have k11 : w1.cell? ⟨w.heap.size, 11, none⟩ = some (.int .i64 x.load) := HK.out.cell rfl
 have k12 : w1.cell? ⟨w.heap.size, 12, none⟩ = some (.int .i64 x.cool) := HK.out.cell rfl
 clear HK
 go_wp2_with fail
 refine (name18_any x.name _ z0).mono ?_
 rintro e w2 ⟨rfl, rfl⟩
 cases h0 : snB x.name with
 | false =>
  go_wp2_with fail
  go_ret
  exact ⟨ret_bool (by unfold svB; rw [h0]; simp), hB1⟩
 | true =>
  go_wp2_with fail
  refine (in18_any x.version 1 now _).mono ?_
  rintro e w3 ⟨rfl, rfl⟩
  cases h1 : inR x.version 1 now with
  | false =>
   go_wp2_with fail
   go_ret
   exact ⟨ret_bool (by unfold svB; rw [h0, h1]; simp), hB1⟩
  | true =>
   go_wp2_with fail
   refine (in18_any x.image 1 1000000 _).mono ?_
   rintro e w4 ⟨rfl, rfl⟩
   cases h2 : inR x.image 1 1000000 with
   | false =>
    go_wp2_with fail
    go_ret
    exact ⟨ret_bool (by unfold svB; rw [h0, h1, h2]; simp), hB1⟩
   | true =>
    go_wp2_with fail
    refine (in18_any x.next 1 1000000 _).mono ?_
    rintro e w5 ⟨rfl, rfl⟩
    cases h3 : inR x.next 1 1000000 with
    | false =>
     go_wp2_with fail
     go_ret
     exact ⟨ret_bool (by unfold svB; rw [h0, h1, h2, h3]; simp), hB1⟩
    | true =>
     go_wp2_with fail
     refine (in18_any x.want 0 10 _).mono ?_
     rintro e w6 ⟨rfl, rfl⟩
     cases h4 : inR x.want 0 10 with
     | false =>
      go_wp2_with fail
      go_ret
      exact ⟨ret_bool (by unfold svB; rw [h0, h1, h2, h3, h4]; simp), hB1⟩
     | true =>
      go_wp2_with fail
      refine (in18_any x.down 0 10 _).mono ?_
      rintro e w7 ⟨rfl, rfl⟩
      cases h5 : inR x.down 0 10 with
      | false =>
       go_wp2_with fail
       go_ret
       exact ⟨ret_bool (by unfold svB; rw [h0, h1, h2, h3, h4, h5]; simp), hB1⟩
      | true =>
       go_wp2_with fail
       refine (in18_any x.over 0 10 _).mono ?_
       rintro e w8 ⟨rfl, rfl⟩
       cases h6 : inR x.over 0 10 with
       | false =>
        go_wp2_with fail
        go_ret
        exact ⟨ret_bool (by unfold svB; rw [h0, h1, h2, h3, h4, h5, h6]; simp), hB1⟩
       | true =>
        have d1 : 0 ≤ x.down ∧ x.down ≤ 10 := by simpa [inR] using h5
        have d2 : 0 ≤ x.over ∧ x.over ≤ 10 := by simpa [inR] using h6
        obtain ⟨d3, d4⟩ := d1
        obtain ⟨d5, d6⟩ := d2
        by_cases hdo : x.down + x.over = 0
        case pos =>
         have HDO : Hid ((x.down + x.over == 0) = true) := by show _ = _; rw [hdo]; rfl
         go_wp2_with fail
         go_ret
         exact ⟨ret_bool (by unfold svB; rw [HDO.out]; simp), hB1⟩
        have HDO : Hid ((x.down + x.over == 0) = false) := by show _ = _; simpa using hdo
        have HE : Hid (svB x now = sldB x) := by show _ = _; unfold svB; rw [h0, h1, h2, h3, h4, h5, h6, HDO.out]; simp
        have hdo2 : (x.down + x.over == 0) = false := HDO.out
        by_cases hp : x.per = 0
        case pos =>
         have HP : Hid (sldB x = (x.least == 0 && x.most == 0 && x.load == 0 && x.cool == 0)) := if_pos hp
         have hp2 : (x.per == 0) = true := by rw [hp]; rfl
         clear hp
         cases g0 : (x.least == 0) with
         | false =>
          go_wp2_with fail
          go_ret
          exact ⟨ret_bool (by rw [HE.out, HP.out, g0]; simp), hB1⟩
         | true =>
          cases g1 : (x.most == 0) with
          | false =>
           go_wp2_with fail
           go_ret
           exact ⟨ret_bool (by rw [HE.out, HP.out, g0, g1]; simp), hB1⟩
          | true =>
           cases g2 : (x.load == 0) with
           | false =>
            go_wp2_with fail
            go_ret
            exact ⟨ret_bool (by rw [HE.out, HP.out, g0, g1, g2]; simp), hB1⟩
           | true =>
            cases g3 : (x.cool == 0) with
            | false =>
             go_wp2_with fail
             go_ret
             exact ⟨ret_bool (by rw [HE.out, HP.out, g0, g1, g2, g3]; simp), hB1⟩
            | true =>
             go_wp2_with fail
             go_ret
             exact ⟨ret_bool (by rw [HE.out, HP.out, g0, g1, g2, g3]; rfl), hB1⟩
        have HP : Hid (sldB x = (inR x.per 0 1000000 && inR x.load 0 1000000 && inR x.least 0 10 && inR x.most x.least 10 && inR x.cool 0 3)) := if_neg hp
        have hp2 : (x.per == 0) = false := by simpa using hp
        clear hp
        go_wp2_with fail
        refine (in18_any x.per 0 1000000 _).mono ?_
        rintro e w20 ⟨rfl, rfl⟩
        cases g0 : inR x.per 0 1000000 with
        | false =>
         go_wp2_with fail
         go_ret
         exact ⟨ret_bool (by rw [HE.out, HP.out, g0]; simp), hB1⟩
        | true =>
         go_wp2_with fail
         refine (in18_any x.load 0 1000000 _).mono ?_
         rintro e w21 ⟨rfl, rfl⟩
         cases g1 : inR x.load 0 1000000 with
         | false =>
          go_wp2_with fail
          go_ret
          exact ⟨ret_bool (by rw [HE.out, HP.out, g0, g1]; simp), hB1⟩
         | true =>
          go_wp2_with fail
          refine (in18_any x.least 0 10 _).mono ?_
          rintro e w22 ⟨rfl, rfl⟩
          cases g2 : inR x.least 0 10 with
          | false =>
           go_wp2_with fail
           go_ret
           exact ⟨ret_bool (by rw [HE.out, HP.out, g0, g1, g2]; simp), hB1⟩
          | true =>
           go_wp2_with fail
           refine (in18_any x.most x.least 10 _).mono ?_
           rintro e w23 ⟨rfl, rfl⟩
           cases g3 : inR x.most x.least 10 with
           | false =>
            go_wp2_with fail
            go_ret
            exact ⟨ret_bool (by rw [HE.out, HP.out, g0, g1, g2, g3]; simp), hB1⟩
           | true =>
            go_wp2_with fail
            refine (in18_any x.cool 0 3 _).mono ?_
            rintro e w24 ⟨rfl, rfl⟩
            cases g4 : inR x.cool 0 3 with
            | false =>
             go_wp2_with fail
             go_ret
             exact ⟨ret_bool (by rw [HE.out, HP.out, g0, g1, g2, g3, g4]; simp), hB1⟩
            | true =>
             go_wp2_with fail
             go_ret
             exact ⟨ret_bool (by rw [HE.out, HP.out, g0, g1, g2, g3, g4]; rfl), hB1⟩

end Go.Proofs.YtnggdpjfmpjlhaaGreat

namespace Go.Proofs.YtnggdpjfmpjlhaaGreat
open Go.RowKit

theorem bts_eq {a b : ByteArray} (h : a = b) : (a.toList == b.toList) = true := bt_eq h
theorem bts_ne {a b : ByteArray} (h : ¬ a = b) : (a.toList == b.toList) = false := bt_ne h

def idxV (bs : List Ssv) (s : ByteArray) : Int := match bs.findIdx? (fun b => decide (b.name = s)) with
 | some k => k
 | none => -1

theorem idxV_at {bs : List Ssv} {s : ByteArray} {k : Nat} {b : Ssv} (hk : bs[k]? = some b) (h : b.name = s) (ho : ∀ j b, j < k → bs[j]? = some b → b.name ≠ s) : idxV bs s = k := by
 have : bs.findIdx? (fun b => decide (b.name = s)) = some k := by
  rw [List.findIdx?_eq_some_iff_getElem]
  have hlt := lt_of_some hk
  rw [List.getElem?_eq_getElem hlt] at hk
  injection hk with hk
  refine ⟨hlt, by simp [hk, h], fun j hj => ?_⟩
  have := ho j bs[j] hj (List.getElem?_eq_getElem (by omega))
  simpa using this
 simp [idxV, this]

theorem idxV_none {bs : List Ssv} {s : ByteArray} (ho : ∀ j b, j < bs.length → bs[j]? = some b → b.name ≠ s) : idxV bs s = -1 := by
 have : bs.findIdx? (fun b => decide (b.name = s)) = none := by
  rw [List.findIdx?_eq_none_iff]
  intro b hb
  obtain ⟨j, hj⟩ := List.getElem?_of_mem hb
  simpa using ho j b (lt_of_some hj) hj
 simp [idxV, this]

set_option maxHeartbeats 1000000 in
set_option maxRecDepth 100000 in
theorem service_at (x : Sbk) (a1 : Option Addr) (c1 : Nat) (a2 : Option Addr) (c2 : Nat) (a3 : Option Addr) (c3 : Nat) (lo : Nat) (s : ByteArray) (w : World) (n1 : SliceC SsvC 13 lo w a1 x.services) (hl : x.services.length ≤ 1048576) :
  Calls Tryz.prog 68 #[.agg #[.int .i64 x.now, .slice a1 x.services.length c1, .slice a2 x.copies.length c2, .slice a3 x.berths.length c3], .string s] w fun e w' => e = .returned (.int .i64 (idxV x.services s)) ∧ Below w.heap.size w w' := by
 have HI : Hid (SliceC SsvC 13 lo w a1 x.services) := n1
 clear n1
 generalize hbs : x.services = bs at *
 clear hbs
 go_enter Tryz.func68, Tryz.ntmps68
 go_wp2_with fail
 go_loopw [5] (fun i wr => ∃ k : Nat, k ≤ bs.length ∧ i = .int .i64 k ∧ wr.cell? ⟨w.heap.size, 1, none⟩ = some (.slice a1 bs.length c1) ∧ Hid (∀ j b, j < k → bs[j]? = some b → b.name ≠ s) ∧ Below w.heap.size w wr) (fun i _ => bs.length - (intOf i).toNat)
 case atStart => exact ⟨0, Nat.zero_le _, rfl, by simp, fun j b h => by omega, by go_grown⟩
 case round =>
  obtain ⟨k, hk, rfl, hcell, ho, hbel⟩ := hrel
  by_cases hlt : k < bs.length
  ·obtain ⟨x, hx⟩ : ∃ x, bs[k]? = some x := ⟨bs[k], List.getElem?_eq_getElem hlt⟩
   obtain ⟨b, o, rfl, _, _, hc⟩ := (HI.out.below SsvC.holds hbel (Nat.le_refl _)).at hx
   obtain ⟨q0, q1, q2, q3, q4, q5, q6, q7, q8, q9, q10, q11, q12, z0⟩ := hc
   simp only [Nat.add_zero] at q0
   have HX : Hid (bs[k]? = some x) := hx
   clear hx q1 q2 q3 q4 q5 q6 q7 q8 q9 q10 q11 q12 z0
   by_cases h : x.name = s
   ·have HZ : Hid (idxV bs s = k) := idxV_at HX.out h ho.out
    have ht := bts_eq h
    clear h
    go_wp2_with fail
    go_ret
    exact ⟨ret_int HZ.out.symm, hbel⟩
   ·have ht := bts_ne h
    go_wp2_with fail
    go_roundw
    case rel =>
     refine ⟨k + 1, by omega, by go_num, hcell, ?_, hbel⟩
     intro j y hj hy
     by_cases e : j = k
     ·subst e
      rw [HX.out] at hy
      cases hy
      exact h
     ·exact ho.out j y (by omega) hy
    case measure => simp [intOf]; omega
  ·have hke : k = bs.length := by omega
   have HZ : Hid (idxV bs s = -1) := idxV_none (hke ▸ ho.out)
   go_wp2_with fail
   go_ret
   exact ⟨ret_int HZ.out.symm, hbel⟩

def idxR (bs : List Sbt) (s : ByteArray) : Int := match bs.findIdx? (fun b => decide (b.name = s)) with
 | some k => k
 | none => -1

theorem idxR_at {bs : List Sbt} {s : ByteArray} {k : Nat} {b : Sbt} (hk : bs[k]? = some b) (h : b.name = s) (ho : ∀ j b, j < k → bs[j]? = some b → b.name ≠ s) : idxR bs s = k := by
 have : bs.findIdx? (fun b => decide (b.name = s)) = some k := by
  rw [List.findIdx?_eq_some_iff_getElem]
  have hlt := lt_of_some hk
  rw [List.getElem?_eq_getElem hlt] at hk
  injection hk with hk
  refine ⟨hlt, by simp [hk, h], fun j hj => ?_⟩
  have := ho j bs[j] hj (List.getElem?_eq_getElem (by omega))
  simpa using this
 simp [idxR, this]

theorem idxR_none {bs : List Sbt} {s : ByteArray} (ho : ∀ j b, j < bs.length → bs[j]? = some b → b.name ≠ s) : idxR bs s = -1 := by
 have : bs.findIdx? (fun b => decide (b.name = s)) = none := by
  rw [List.findIdx?_eq_none_iff]
  intro b hb
  obtain ⟨j, hj⟩ := List.getElem?_of_mem hb
  simpa using ho j b (lt_of_some hj) hj
 simp [idxR, this]

set_option maxHeartbeats 1000000 in
set_option maxRecDepth 100000 in
theorem berth_at (x : Sbk) (a1 : Option Addr) (c1 : Nat) (a2 : Option Addr) (c2 : Nat) (a3 : Option Addr) (c3 : Nat) (lo : Nat) (s : ByteArray) (w : World) (n1 : SliceC SbtC 2 lo w a3 x.berths) (hl : x.berths.length ≤ 1048576) :
  Calls Tryz.prog 69 #[.agg #[.int .i64 x.now, .slice a1 x.services.length c1, .slice a2 x.copies.length c2, .slice a3 x.berths.length c3], .string s] w fun e w' => e = .returned (.int .i64 (idxR x.berths s)) ∧ Below w.heap.size w w' := by
 have HI : Hid (SliceC SbtC 2 lo w a3 x.berths) := n1
 clear n1
 generalize hbs : x.berths = bs at *
 clear hbs
 go_enter Tryz.func69, Tryz.ntmps69
 go_wp2_with fail
 go_loopw [5] (fun i wr => ∃ k : Nat, k ≤ bs.length ∧ i = .int .i64 k ∧ wr.cell? ⟨w.heap.size, 3, none⟩ = some (.slice a3 bs.length c3) ∧ Hid (∀ j b, j < k → bs[j]? = some b → b.name ≠ s) ∧ Below w.heap.size w wr) (fun i _ => bs.length - (intOf i).toNat)
 case atStart => exact ⟨0, Nat.zero_le _, rfl, by simp, fun j b h => by omega, by go_grown⟩
 case round =>
  obtain ⟨k, hk, rfl, hcell, ho, hbel⟩ := hrel
  by_cases hlt : k < bs.length
  ·obtain ⟨x, hx⟩ : ∃ x, bs[k]? = some x := ⟨bs[k], List.getElem?_eq_getElem hlt⟩
   obtain ⟨b, o, rfl, _, _, hc⟩ := (HI.out.below SbtC.holds hbel (Nat.le_refl _)).at hx
   obtain ⟨q0, q1, z0⟩ := hc
   simp only [Nat.add_zero] at q0
   have HX : Hid (bs[k]? = some x) := hx
   clear hx q1 z0
   by_cases h : x.name = s
   ·have HZ : Hid (idxR bs s = k) := idxR_at HX.out h ho.out
    have ht := bts_eq h
    clear h
    go_wp2_with fail
    go_ret
    exact ⟨ret_int HZ.out.symm, hbel⟩
   ·have ht := bts_ne h
    go_wp2_with fail
    go_roundw
    case rel =>
     refine ⟨k + 1, by omega, by go_num, hcell, ?_, hbel⟩
     intro j y hj hy
     by_cases e : j = k
     ·subst e
      rw [HX.out] at hy
      cases hy
      exact h
     ·exact ho.out j y (by omega) hy
    case measure => simp [intOf]; omega
  ·have hke : k = bs.length := by omega
   have HZ : Hid (idxR bs s = -1) := idxR_none (hke ▸ ho.out)
   go_wp2_with fail
   go_ret
   exact ⟨ret_int HZ.out.symm, hbel⟩

def ahB (x y : Scp) : Bool := Op.bytesLess x.service.toList y.service.toList || ((x.service.toList == y.service.toList) && decide (x.number < y.number))

set_option maxHeartbeats 2000000 in
set_option maxRecDepth 100000 in
theorem ahead18_any (x y : Scp) (w : World) :
  Calls Tryz.prog 42 #[.agg #[.string x.service, .int .i64 x.number, .int .i64 x.version, .int .i64 x.image, .int .i64 x.state, .bool x.ending, .string x.berth], .agg #[.string y.service, .int .i64 y.number, .int .i64 y.version, .int .i64 y.image, .int .i64 y.state, .bool y.ending, .string y.berth]] w fun e w' => e = .returned (.bool (ahB x y)) ∧ Below w.heap.size w w' := by
 cases h1 : Op.bytesLess x.service.toList y.service.toList with
 | true =>
  go_enter Tryz.func42, Tryz.ntmps42
  go_wp2_with fail
  go_ret
  exact ⟨ret_bool (by unfold ahB; rw [h1]; rfl), by go_grown⟩
 | false =>
  cases h2 : (x.service.toList == y.service.toList) with
  | false =>
   go_enter Tryz.func42, Tryz.ntmps42
   go_wp2_with fail
   go_ret
   exact ⟨ret_bool (by unfold ahB; rw [h1, h2]; rfl), by go_grown⟩
  | true =>
   go_enter Tryz.func42, Tryz.ntmps42
   go_wp2_with fail
   go_ret
   exact ⟨ret_bool (by unfold ahB; rw [h1, h2]; simp), by go_grown⟩

end Go.Proofs.YtnggdpjfmpjlhaaGreat
