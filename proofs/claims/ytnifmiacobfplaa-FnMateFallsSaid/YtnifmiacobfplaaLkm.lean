import Derived.Test.YtnifmiacobfplaaFow
import Derived.Test.YtnifmiacobfplaaFrk
import Derived.Test.YtnifmiacobfplaaFlq
import Derived.Test.YtnifmiacobfplaaWm
namespace Go.Proofs.Ytnifmiacobfplaa
open Go.RowKit

structure KM (x : Mte) (lo : Nat) (a5 : Option Addr) (c5 : Nat) (a6 : Option Addr) (c6 : Nat) (a7 : Option Addr) (c7 : Nat) (a8 : Option Addr) (c8 : Nat) (w : World) : Prop where
 sv : MSv x lo a5 a6 a7 a8 w
 nl : MNil a5 x.wants.length c5 a6 x.runs.length c6 a7 x.asks.length c7 a8 x.gives.length c8
 sz : MSz x

section
variable {x : Mte} {lo : Nat} {a5 : Option Addr} {c5 : Nat} {a6 : Option Addr} {c6 : Nat} {a7 : Option Addr} {c7 : Nat} {a8 : Option Addr} {c8 : Nat} {w w' : World}

theorem KM.below (h : KM x lo a5 c5 a6 c6 a7 c7 a8 c8 w) {B : Nat} (hb : Below B w w') (hB : w.heap.size ≤ B) : KM x lo a5 c5 a6 c6 a7 c7 a8 c8 w' :=
 ⟨⟨h.sv.s5.below WntC.holds hb hB, h.sv.s6.below RnC.holds hb hB, h.sv.s7.below AksC.holds hb hB, h.sv.s8.below AksC.holds hb hB, h.sv.p5, h.sv.p6, h.sv.p7, h.sv.p8⟩, h.nl, h.sz⟩
theorem KM.sl (h : KM x lo a5 c5 a6 c6 a7 c7 a8 c8 w) : MSl x lo a5 a6 a7 a8 w :=
 ⟨by have := h.sz.nm; unfold maxLen; omega, h.sv.s5, h.sv.s6, h.sv.s7, h.sv.s8, h.sz.l5, h.sz.l6, h.sz.l7, h.sz.l8⟩
theorem KM.of_l (h : MkL lo x a5 c5 a6 c6 a7 c7 a8 c8 w) (hf : Few x 20) : KM x lo a5 c5 a6 c6 a7 c7 a8 c8 w := ⟨h.sv hf (by omega), h.nils, h.sz hf (by omega)⟩
theorem KM.of_g {hi : Nat} (h : G4 x lo hi a5 a6 a7 a8 w) (hk : MOk a5 x.wants.length c5 a6 x.runs.length c6 a7 x.asks.length c7 a8 x.gives.length c8) (hs : MSz x) : KM x lo a5 c5 a6 c6 a7 c7 a8 c8 w := by
 obtain ⟨h5, h6, h7, l5, l6, l7, l8, l9, u5, u6, u7, u8, s5, s6, s7, s8⟩ := h
 have k : ∀ l, Keeps l w w := fun l => Keeps.of_below (Below.refl _ w) (Nat.le_refl _) l
 exact ⟨⟨s5, s6.keep RnC.holds (k _) l5, s7.keep AksC.holds (k _) (by omega), s8.keep AksC.holds (k _) (by omega), hk.p5, hk.p6, hk.p7, hk.p8⟩, ⟨hk.e5, hk.e6, hk.e7, hk.e8⟩, hs⟩

end

theorem fall_sz {x : Mte} (m : Bool) (hn : x.name.size ≤ 100) (hz : SzRn x.runs 100) (hl : x.runs.length ≤ 20) : MSz (fall x m) := by
 unfold fall
 split
 ·have h1 : SzRn (fallR x.runs m) 100 := by rw [fall_eq]; exact fallS_100 hz
  have h2 : (fallR x.runs m).length ≤ 20 := by rw [fall_eq]; exact Nat.le_trans (fallS_few _ _) hl
  exact ⟨by show x.name.size ≤ _; omega, fun _ h => (by cases h), fun r hr => (by have := h1 r hr; exact ⟨by omega, by omega⟩), fun _ h => (by cases h), fun _ h => (by cases h), Nat.zero_le _, by show (fallR x.runs m).length ≤ _; omega, Nat.zero_le _, Nat.zero_le _⟩
 ·exact ⟨Nat.zero_le _, fun _ h => (by cases h), fun _ h => (by cases h), fun _ h => (by cases h), fun _ h => (by cases h), Nat.zero_le _, Nat.zero_le _, Nat.zero_le _, Nat.zero_le _⟩

theorem rise_sz {x : Mte} (h : MSz x) : MSz (rise x) := by
 unfold rise
 split
 ·exact ⟨h.nm, h.z5, h.z6, h.z7, h.z8, h.l5, h.l6, h.l7, h.l8⟩
 ·exact ⟨Nat.zero_le _, fun _ h => (by cases h), fun _ h => (by cases h), fun _ h => (by cases h), fun _ h => (by cases h), Nat.zero_le _, Nat.zero_le _, Nat.zero_le _, Nat.zero_le _⟩

theorem sz_filter {l : List Rn} {n : Nat} (h : SzRn l n) (P : Rn → Bool) : SzRn (l.filter P) n := fun r hr => h r (List.mem_filter.1 hr).1
theorem sz_take {l : List Rn} {n : Nat} (h : SzRn l n) (k : Nat) : SzRn (l.take k) n := fun r hr => h r (List.mem_of_mem_take hr)

end Go.Proofs.Ytnifmiacobfplaa
