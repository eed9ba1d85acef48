import Derived.Test.YtnifmiacobfplaaFl1
namespace Go.Proofs.Ytnifmiacobfplaa
open Go.RowKit

def fallR (l : List Rn) (m : Bool) : List Rn := if m = true then ((l.filter (fun r => alB r.state)).filter (fun r => !(r.want.hold.toList == []))).map killR else l.filter (fun r => alB r.state)
def fall (x : Mte) (m : Bool) : Mte := if mvB x = true then ⟨x.name, false, x.clock, false, 0, [], fallR x.runs m, [], []⟩ else noMte

def keepS (m : Bool) (r : Rn) : Bool := alB r.state && (!m || !(r.want.hold.toList == []))
def fallS (l : List Rn) (m : Bool) : List Rn := (l.filter (keepS m)).map (fun r => if m = true then killR r else r)

theorem fall_eq (l : List Rn) (m : Bool) : fallR l m = fallS l m := by
 unfold fallR fallS
 cases m with
 | false =>
  simp only [Bool.false_eq_true, if_false, List.map_id']
  congr 1
  funext r
  simp [keepS]
 | true =>
  simp only [if_true, List.filter_filter]
  congr 1
  congr 1
  funext r
  simp [keepS, Bool.and_comm]

theorem fs_step {m : Bool} {l : List Rn} {k : Nat} {r : Rn} (h : l[k]? = some r) : fallS (l.take (k + 1)) m = fallS (l.take k) m ++ fallS [r] m := by
 unfold fallS
 rw [List.take_add_one, h, List.filter_append, List.map_append]
 rfl

theorem fs_no {m : Bool} {r : Rn} (h : keepS m r = false) : fallS [r] m = [] := by
 unfold fallS
 simp [h]

theorem kept_len {P : Rn → Bool} {l : List Rn} (h : l.length ≤ 1048576) (z : SzRn l 1048576) : (l.filter P).length ≤ 1048576 ∧ SzRn (l.filter P) 1048576 :=
 ⟨Nat.le_trans (List.length_filter_le _ _) h, fun r hr => z r (List.mem_filter.1 hr).1⟩

theorem kill_len {l : List Rn} (h : l.length ≤ 1048576) (z : SzRn l 1048576) : (l.map killR).length ≤ 1048576 ∧ SzRn (l.map killR) 1048576 :=
 ⟨by rw [List.length_map]; exact h, fun r hr => by
  obtain ⟨y, hy, rfl⟩ := List.mem_map.1 hr
  exact z y hy⟩

theorem fallS_sz {l : List Rn} {m : Bool} (h : l.length ≤ 1048576) (z : SzRn l 1048576) : (fallS l m).length ≤ 1048576 ∧ SzRn (fallS l m) 1048576 := by
 have hk := kept_len (P := keepS m) h z
 cases m with
 | false =>
  have e : fallS l false = l.filter (keepS false) := by simp [fallS]
  rw [e]
  exact hk
 | true => exact kill_len hk.1 hk.2

theorem ownsRow_set_oth {base : Nat} {e : TypeId} {s n : Nat} {v : Value} {cs : List Value} {w : World} (h : w.ownsRow base e s v n cs) {a : Addr} (u : Value) (hne : ∀ g c, v = .slice (some ⟨g, 0, none⟩) n c → g ≠ a.block) : (w.setCell a u).ownsRow base e s v n cs := by
 refine ⟨h.1, ?_⟩
 rcases h.2 with h' | ⟨g, cap, cur, h1, h2, h3, h4⟩
 ·exact .inl h'
 ·exact .inr ⟨g, cap, cur, h1, h2, (Below.heap_setCell w a u g (hne g cap h1)).trans h3, h4⟩

end Go.Proofs.Ytnifmiacobfplaa
