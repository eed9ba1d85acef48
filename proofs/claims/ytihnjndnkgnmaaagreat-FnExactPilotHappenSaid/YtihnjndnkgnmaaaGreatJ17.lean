import Derived.Test.YtihnjndnkgnmaaaGreatTk0
import Derived.Test.YtihnjndnkgnmaaaGreatJ16
import Derived.Test.YtihnjndnkgnmaaaGreatJ5
import Derived.Lib.Strings
import Derived.Lib.Slices
import Derived.Lib.Walk
import Derived.Lib.Bytealg
import Derived.Lib.IndexLaws
namespace Go.Proofs.YtihnjndnkgnmaaaGreat
open Go.RowKit

set_option maxHeartbeats 1000000 in
theorem both_any (p : Nat) (t : ByteArray) (f : Nat) (H : ∀ g, g ≤ f → RdOk 174 0 1 p t g) (ht : t.size ≤ 200) : RdOk 169 1 2 p t (f + 1) := by
 intro i w hr hi hf
 have HR : Hid (RdAt w p t i) := hr
 have HH : Hid (∀ g, g ≤ f → RdOk 174 0 1 p t g) := H
 have HF : Hid (4 * (toksAt t i).length + 2 ≤ f + 1) := hf
 clear hr H hf
 go_enter Tryz.func169, Tryz.ntmps169
 go_wp2_with fail
 refine (chainAnd_any p t f HH.out i _ HR.out hi ht HF.out).mono ?_
 rintro e w1 (⟨y, k, h1, rfl, h2, h3, h4⟩ | ⟨h1, q, rfl, h4⟩)
 ·have H : Hid (Rds p t (P.rd (f + 1) 1 P.nonT (toksAt t i)) w (.returned (.tuple #[val y, .nilIface])) w1) := .inl ⟨y, k, h1, rfl, h2, h3, h4⟩
  clear h1 h3 h4
  go_wp2_with fail
  go_ret2
  exact H.out
 ·have H : Hid (Rds p t (P.rd (f + 1) 1 P.nonT (toksAt t i)) w (.returned (.tuple #[.nilIface, fltV q])) w1) := .inr ⟨h1, q, rfl, h4⟩
  clear h1 h4
  go_wp2_with fail
  go_ret2
  exact H.out

set_option maxHeartbeats 1000000 in
theorem either_any (p : Nat) (t : ByteArray) (f : Nat) (H : ∀ g, g ≤ f → RdOk 169 1 2 p t g) (ht : t.size ≤ 200) : RdOk 160 2 3 p t (f + 1) := by
 intro i w hr hi hf
 have HR : Hid (RdAt w p t i) := hr
 have HH : Hid (∀ g, g ≤ f → RdOk 169 1 2 p t g) := H
 have HF : Hid (4 * (toksAt t i).length + 3 ≤ f + 1) := hf
 clear hr H hf
 go_enter Tryz.func160, Tryz.ntmps160
 go_wp2_with fail
 refine (chainOr_any p t f HH.out i _ HR.out hi ht HF.out).mono ?_
 rintro e w1 (⟨y, k, h1, rfl, h2, h3, h4⟩ | ⟨h1, q, rfl, h4⟩)
 ·have H : Hid (Rds p t (P.rd (f + 1) 2 P.nonT (toksAt t i)) w (.returned (.tuple #[val y, .nilIface])) w1) := .inl ⟨y, k, h1, rfl, h2, h3, h4⟩
  clear h1 h3 h4
  go_wp2_with fail
  go_ret2
  exact H.out
 ·have H : Hid (Rds p t (P.rd (f + 1) 2 P.nonT (toksAt t i)) w (.returned (.tuple #[.nilIface, fltV q])) w1) := .inr ⟨h1, q, rfl, h4⟩
  clear h1 h4
  go_wp2_with fail
  go_ret2
  exact H.out

def brk (f : Nat) (l : List (List UInt8)) : Option (P.Tr × List (List UInt8)) := match P.rd f 2 P.nonT l with
 | none => none
 | some (y, r') => match P.tk 41 r' with
  | none => none
  | some r'' => some (y, r'')

set_option maxHeartbeats 1000000 in
theorem brk_any (p : Nat) (t : ByteArray) (f : Nat) (H : RdOk 160 2 3 p t f) (i : Nat) (w : World) (hr : RdAt w p t i) (hi : i ≤ t.size) (ht : t.size ≤ 200) (hf : 4 * (toksAt t i).length + 3 ≤ f) :
  Calls Tryz.prog 178 #[.pointer (some ⟨p, 0, none⟩)] w fun e w' => Rds p t (brk f (toksAt t i)) w e w' := by
 have HR : Hid (RdAt w p t i) := hr
 have HH : Hid (RdOk 160 2 3 p t f) := H
 have HF : Hid (4 * (toksAt t i).length + 3 ≤ f) := hf
 have HM : Hid (brk f (toksAt t i) = match P.rd f 2 P.nonT (toksAt t i) with
  | none => none
  | some (y, r') => match P.tk 41 r' with
   | none => none
   | some r'' => some (y, r'')) := rfl
 generalize brk f (toksAt t i) = M at *
 clear hr H hf
 go_enter Tryz.func178, Tryz.ntmps178
 go_wp2_with fail
 refine (HH.out i _ HR.out hi HF.out).mono ?_
 rintro e w1 (⟨y, k, h1, rfl, h2, h3, h4⟩ | ⟨h1, q, rfl, h4⟩)
 ·have H3 : Hid (RdAt w1 p t k) := h3
  have H4 : Hid (But p w.heap.size w w1) := h4
  have HM2 : Hid (M = match P.tk 41 (toksAt t k) with
   | none => none
   | some r'' => some (y, r'')) := by rw [HM.out, h1]; rfl
  clear h1 h3 h4 HM
  go_wp2_with fail
  refine (take_any p t k 41 _ H3.out h2 ht (by decide) (by decide)).mono ?_
  rintro e w2 ⟨k2, rfl, g1, g2, g3, g4, g5⟩
  have G4 : Hid (RdAt w2 p t k2) := g4
  have G5 : Hid (But p w.heap.size w w2) := H4.out.trans (g5.mono H4.out.size)
  have G3 : Hid (toksAt t k2 = (P.tk 41 (toksAt t k)).getD (toksAt t k)) := g3
  clear g3 g4 g5
  cases hT : P.tk 41 (toksAt t k) with
  | none =>
   have HR1 : Hid (M = none) := by rw [HM2.out, hT]; rfl
   clear hT HM2 G3
   go_wp2_with fail
   refine (fault_any p t k2 _ G4.out).mono ?_
   rintro e w3 ⟨rfl, hb3⟩
   have F4 : Hid (But p w.heap.size w w3) := G5.out.trans (hb3.mono G5.out.size)
   clear hb3
   go_wp2_with fail
   go_ret2
   exact .inr ⟨HR1.out, _, rfl, F4.out⟩
  | some r' =>
   have HR1 : Hid (M = some (y, toksAt t k2)) := by rw [HM2.out, hT]; simp only []; rw [G3.out, hT]; rfl
   clear hT HM2 G3
   go_wp2_with fail
   go_ret2
   exact .inl ⟨y, k2, HR1.out, rfl, g2, G4.out, G5.out⟩
 ·have HR1 : Hid (M = none) := by rw [HM.out, h1]; rfl
  have H4 : Hid (But p w.heap.size w w1) := h4
  clear h1 h4 HM
  simp only [fltV]
  go_wp2_with fail
  go_ret2
  exact .inr ⟨HR1.out, q, rfl, H4.out⟩

set_option maxHeartbeats 1000000 in
theorem single_any (p : Nat) (t : ByteArray) (f : Nat) (H : RdOk 174 0 1 p t f) (HE : RdOk 160 2 3 p t f) (ht : t.size ≤ 200) : RdOk 174 0 1 p t (f + 1) := by
 intro i w hr hi hf
 have HR : Hid (RdAt w p t i) := hr
 have HH : Hid (RdOk 174 0 1 p t f) := H
 have HE' : Hid (RdOk 160 2 3 p t f) := HE
 have HF : Hid (4 * (toksAt t i).length + 1 ≤ f + 1) := hf
 have HM : Hid (P.rd (f + 1) 0 P.nonT (toksAt t i) = match P.tk 33 (toksAt t i) with
  | some r => match P.rd f 0 P.nonT r with
   | none => none
   | some (y, r') => some (P.ntT y, r')
  | none => match P.tk 40 (toksAt t i) with
   | some r => brk f r
   | none => P.markT (toksAt t i)) := rfl
 generalize P.rd (f + 1) 0 P.nonT (toksAt t i) = M at *
 clear hr H hf HE
 go_enter Tryz.func174, Tryz.ntmps174
 go_wp2_with fail
 refine (take_any p t i 33 _ HR.out hi ht (by decide) (by decide)).mono ?_
 rintro e w2 ⟨k2, rfl, g1, g2, g3, g4, g5⟩
 have G4 : Hid (RdAt w2 p t k2) := g4
 have G5 : Hid (But p w.heap.size w w2) := g5
 have G3 : Hid (toksAt t k2 = (P.tk 33 (toksAt t i)).getD (toksAt t i)) := g3
 clear g3 g4 g5
 cases hT : P.tk 33 (toksAt t i) with
 | some r' =>
  have G3' : Hid (toksAt t k2 = r') := by rw [G3.out, hT]; rfl
  have hl2 : Hid ((toksAt t k2).length + 1 = (toksAt t i).length) := by rw [G3'.out]; exact P.tk_len hT
  have HM2 : Hid (M = match P.rd f 0 P.nonT (toksAt t k2) with
   | none => none
   | some (y, r') => some (P.ntT y, r')) := by rw [HM.out, hT]; simp only []; rw [G3'.out]; rfl
  clear hT HM G3 G3'
  go_wp2_with fail
  refine (HH.out k2 _ G4.out g2 (by have := HF.out; have := hl2.out; omega)).mono ?_
  rintro e w3 (⟨z, k3, f1, rfl, f2, f3, f4⟩ | ⟨f1, q, rfl, f4⟩)
  ·obtain ⟨b1, b2, b3, b4, b5, b6⟩ := P.rd_rd f 0 P.nonT _ _ _ (fun h => by omega) f1
   rw [if_pos (by omega)] at b5
   have HM3 : Hid (M = some (P.ntT z, toksAt t k3)) := by rw [HM2.out, f1]; rfl
   have F3 : Hid (RdAt w3 p t k3) := f3
   have F4 : Hid (But p w.heap.size w w3) := G5.out.trans (f4.mono G5.out.size)
   have HW : Hid (P.wf z) := b3
   have HZ : Hid (P.tall z ≤ 1000) := by show _ ≤ _; have := toksAt_le (i := k2) ht; omega
   clear f1 f3 f4 HM2 b1 b2 b3 b4 b5 b6
   go_wp2_with fail
   refine (negate_any z HW.out HZ.out _).mono ?_
   rintro e w4 ⟨rfl, hb4⟩
   have E3 : Hid (RdAt w4 p t k3) := F3.out.below hb4 F3.out.lt
   have E4 : Hid (But p w.heap.size w w4) := F4.out.trans ((But.of_below hb4).mono F4.out.size)
   clear hb4
   go_wp2_with fail
   go_ret2
   exact .inl ⟨_, k3, HM3.out, rfl, f2, E3.out, E4.out⟩
  ·have HR1 : Hid (M = none) := by rw [HM2.out, f1]; rfl
   have F4 : Hid (But p w.heap.size w w3) := G5.out.trans (f4.mono G5.out.size)
   clear f1 f4 HM2
   simp only [fltV]
   go_wp2_with fail
   go_ret2
   exact .inr ⟨HR1.out, q, rfl, F4.out⟩
 | none =>
  have G3' : Hid (toksAt t k2 = toksAt t i) := by rw [G3.out, hT]; rfl
  have HM2 : Hid (M = match P.tk 40 (toksAt t k2) with
   | some r => brk f r
   | none => P.markT (toksAt t k2)) := by rw [HM.out, hT, G3'.out]; rfl
  clear hT HM G3
  go_wp2_with fail
  refine (take_any p t k2 40 _ G4.out g2 ht (by decide) (by decide)).mono ?_
  rintro e w3 ⟨k3, rfl, f1, f2, f3, f4, f5⟩
  have F4 : Hid (RdAt w3 p t k3) := f4
  have F5 : Hid (But p w.heap.size w w3) := G5.out.trans (f5.mono G5.out.size)
  have F3 : Hid (toksAt t k3 = (P.tk 40 (toksAt t k2)).getD (toksAt t k2)) := f3
  clear f3 f4 f5
  cases hT : P.tk 40 (toksAt t k2) with
  | some r' =>
   have F3' : Hid (toksAt t k3 = r') := by rw [F3.out, hT]; rfl
   have hl2 : Hid ((toksAt t k3).length + 1 = (toksAt t i).length) := by rw [F3'.out, ← G3'.out]; exact P.tk_len hT
   have HM3 : Hid (M = brk f (toksAt t k3)) := by rw [HM2.out, hT, F3'.out]; rfl
   clear hT HM2 F3 F3' G3'
   go_wp2_with fail
   refine (brk_any p t f HE'.out k3 _ F4.out f2 ht (by have := HF.out; have := hl2.out; omega)).mono ?_
   rintro e w4 (⟨z, k4, d1, rfl, d2, d3, d4⟩ | ⟨d1, q, rfl, d4⟩)
   ·have H : Hid (Rds p t M w (.returned (.tuple #[val z, .nilIface])) w4) := .inl ⟨z, k4, HM3.out.trans d1, rfl, d2, d3, F5.out.trans (d4.mono F5.out.size)⟩
    clear d1 d3 d4
    go_wp2_with fail
    go_ret2
    exact H.out
   ·have H : Hid (Rds p t M w (.returned (.tuple #[.nilIface, fltV q])) w4) := .inr ⟨HM3.out.trans d1, q, rfl, F5.out.trans (d4.mono F5.out.size)⟩
    clear d1 d4
    go_wp2_with fail
    go_ret2
    exact H.out
  | none =>
   have HM3 : Hid (M = P.markT (toksAt t k3)) := by rw [HM2.out, hT, F3.out, hT]; rfl
   clear hT HM2 F3 G3'
   go_wp2_with fail
   refine (mark_any p t k3 _ F4.out f2 ht).mono ?_
   rintro e w4 (⟨z, k4, d1, rfl, d2, d3, d4⟩ | ⟨d1, q, rfl, d4⟩)
   ·have H : Hid (Rds p t M w (.returned (.tuple #[val z, .nilIface])) w4) := .inl ⟨z, k4, HM3.out.trans d1, rfl, d2, d3, F5.out.trans (d4.mono F5.out.size)⟩
    clear d1 d3 d4
    go_wp2_with fail
    go_ret2
    exact H.out
   ·have H : Hid (Rds p t M w (.returned (.tuple #[.nilIface, fltV q])) w4) := .inr ⟨HM3.out.trans d1, q, rfl, F5.out.trans (d4.mono F5.out.size)⟩
    clear d1 d4
    go_wp2_with fail
    go_ret2
    exact H.out

theorem rdOk_zero (F : FuncId) (m c p : Nat) (t : ByteArray) (hc : 1 ≤ c) : RdOk F m c p t 0 := by
 intro i w _ _ hf
 omega

theorem all_ok (p : Nat) (t : ByteArray) (ht : t.size ≤ 200) : ∀ f g, g ≤ f → RdOk 174 0 1 p t g ∧ RdOk 169 1 2 p t g ∧ RdOk 160 2 3 p t g
 | 0, g, hg => by
  have : g = 0 := by omega
  subst this
  exact ⟨rdOk_zero _ _ _ _ _ (by omega), rdOk_zero _ _ _ _ _ (by omega), rdOk_zero _ _ _ _ _ (by omega)⟩
 | f + 1, g, hg => by
  have ih := all_ok p t ht f
  by_cases h : g ≤ f
  ·exact ih g h
  ·have : g = f + 1 := by omega
   subst this
   exact ⟨single_any p t f (ih f nL).1 (ih f nL).2.2 ht, both_any p t f (fun g hg => (ih g hg).1) ht, either_any p t f (fun g hg => (ih g hg).2.1) ht⟩

end Go.Proofs.YtihnjndnkgnmaaaGreat

namespace Go.Proofs.YtihnjndnkgnmaaaGreat
open Go.RowKit

def codeOf (t : ByteArray) : Nat :=
 if 200 < t.size then 1
 else if toksAt t 0 = [] then 0
 else match P.rd 1000 2 P.nonT (toksAt t 0) with
  | some (y, []) => if 20 < P.tall y then 3 else 0
  | _ => 2

def treeOf (t : ByteArray) : P.Tr :=
 if toksAt t 0 = [] then P.nonT
 else match P.rd 1000 2 P.nonT (toksAt t 0) with
  | some (y, _) => y
  | none => P.nonT

def ReadR (t : ByteArray) (w : World) (e : Ending) (w' : World) : Prop :=
 ((codeOf t = 0 ∧ e = .returned (.tuple #[val (treeOf t), .nilIface])) ∨ (codeOf t ≠ 0 ∧ ∃ q, e = .returned (.tuple #[.nilIface, .iface 208 (.agg #[.int .i64 (codeOf t : Nat), .int .i64 q])]))) ∧ Below w.heap.size w w'

theorem toks_ne {t : ByteArray} {k : Nat} (hk : k < t.size) (hs : Solid t k) : toksAt t k ≠ [] := by
 obtain ⟨l, r, e⟩ := toksAt_head hk (hs hk)
 rw [e]
 exact fun h => by cases h

set_option maxHeartbeats 2000000 in
set_option maxRecDepth 100000 in
theorem read_any (t : ByteArray) (w : World) (hm : t.size ≤ maxLen) :
  Calls Tryz.prog 152 #[.string t] w fun e w' => ReadR t w e w' := by
 unfold maxLen at hm
 by_cases hbig : (200 : Int) < t.size
 ·have HC : Hid (codeOf t = 1) := by show _ = _; unfold codeOf; rw [if_pos (by omega)]
  go_enter Tryz.func152, Tryz.ntmps152
  go_wp2_with fail
  go_ret2
  exact ⟨.inr ⟨by rw [HC.out]; omega, 200, by rw [HC.out]; rfl⟩, Below.refl _ _⟩
 have ht : t.size ≤ 200 := by omega
 have HC : Hid (codeOf t = if toksAt t 0 = [] then 0 else match P.rd 1000 2 P.nonT (toksAt t 0) with
  | some (y, []) => if 20 < P.tall y then 3 else 0
  | _ => 2) := by show _ = _; unfold codeOf; rw [if_neg (by omega)]
 have HT : Hid (treeOf t = if toksAt t 0 = [] then P.nonT else match P.rd 1000 2 P.nonT (toksAt t 0) with
  | some (y, _) => y
  | none => P.nonT) := rfl
 go_enter Tryz.func152, Tryz.ntmps152
 go_wp2_with fail
 have W0 : Hid (RdAt (w.alloc (Obj.cells #[.string t, .int .i64 0] 211)) w.heap.size t 0) := ⟨by simp, by simp, by simp⟩
 have B0 : Hid (Below w.heap.size w (w.alloc (Obj.cells #[.string t, .int .i64 0] 211))) := (Below.refl _ _).alloc nL _
 generalize w.alloc (Obj.cells #[.string t, .int .i64 0] 211) = w0 at *
 refine (ended_any w.heap.size t 0 _ W0.out (Nat.zero_le _) ht).mono ?_
 rintro e w1 ⟨k, rfl, _, k2, k3, k4, k5, k6⟩
 have H3 : Hid (toksAt t k = toksAt t 0) := k3
 have H4 : Hid (Solid t k) := k4
 have H5 : Hid (RdAt w1 w.heap.size t k) := k5
 have B1 : Hid (Below w.heap.size w w1) := B0.out.trans (k6.below B0.out.size nL)
 clear k3 k4 k5 k6 B0 W0
 by_cases hk : k = t.size
 ·rw [decide_eq_true hk]
  have he : toksAt t 0 = [] := by rw [← H3.out, toksAt_end (by omega)]
  have HC0 : Hid (codeOf t = 0) := by rw [HC.out, if_pos he]; rfl
  have HT0 : Hid (treeOf t = P.nonT) := by rw [HT.out, if_pos he]; rfl
  clear he hk
  go_wp2_with fail
  go_ret2
  exact ⟨.inl ⟨HC0.out, by rw [HT0.out]; rfl⟩, B1.out⟩
 rw [decide_eq_false hk]
 have he : ¬ toksAt t 0 = [] := by rw [← H3.out]; exact toks_ne (by omega) H4.out
 have HC1 : Hid (codeOf t = match P.rd 1000 2 P.nonT (toksAt t k) with
  | some (y, []) => if 20 < P.tall y then 3 else 0
  | _ => 2) := by rw [HC.out, if_neg he, H3.out]; rfl
 have HT1 : Hid (treeOf t = match P.rd 1000 2 P.nonT (toksAt t k) with
  | some (y, _) => y
  | none => P.nonT) := by rw [HT.out, if_neg he, H3.out]; rfl
 clear he hk HC HT
 go_wp2_with fail
 refine ((all_ok w.heap.size t ht 1000 1000 nL).2.2 k _ H5.out k2 (by have := toksAt_le (i := k) ht; omega)).mono ?_
 rintro e w2 (⟨y, k3, f1, rfl, f2, f3, f4⟩ | ⟨f1, q, rfl, f4⟩)
 ·obtain ⟨b1, b2, b3, b4, b5, b6⟩ := P.rd_rd 1000 2 P.nonT _ _ _ (fun h => by omega) f1
  have HT2 : Hid (treeOf t = y) := by rw [HT1.out, f1]; rfl
  have HC2 : Hid (codeOf t = match toksAt t k3 with
   | [] => if 20 < P.tall y then 3 else 0
   | _ => 2) := by rw [HC1.out, f1]; cases toksAt t k3 <;> rfl
  have F3 : Hid (RdAt w2 w.heap.size t k3) := f3
  have B2 : Hid (Below w.heap.size w w2) := B1.out.trans (f4.below B1.out.size nL)
  have HW : Hid (P.wf y) := b3
  clear f1 f3 f4 HT1 HC1 b1 b2 b3 b4 b5 b6
  go_wp2_with fail
  refine (ended_any w.heap.size t k3 _ F3.out f2 ht).mono ?_
  rintro e w3 ⟨k4, rfl, _, d2, d3, d4, d5, d6⟩
  have D3 : Hid (toksAt t k4 = toksAt t k3) := d3
  have D4 : Hid (Solid t k4) := d4
  have D5 : Hid (RdAt w3 w.heap.size t k4) := d5
  have B3 : Hid (Below w.heap.size w w3) := B2.out.trans (d6.below B2.out.size nL)
  clear d3 d4 d5 d6 B2 F3
  by_cases hk : k4 = t.size
  ·rw [decide_eq_true hk]
   have he : toksAt t k3 = [] := by rw [← D3.out, toksAt_end (by omega)]
   have HC3 : Hid (codeOf t = if 20 < P.tall y then 3 else 0) := by rw [HC2.out, he]; rfl
   clear he hk HC2 D3 D4 D5
   obtain ⟨ty, v, hv⟩ := val_iface HW.out
   have HV : Hid (val y = .iface ty v) := hv
   rw [hv]
   clear hv
   go_wp2_with (refine wpList_meth rfl (.tmp 32) _ #[] #[] rfl _ rfl #[] (map_none _) _ (tall_meth ⟨fun _ => by kernel_rfl, fun _ _ => by kernel_rfl, fun _ _ _ => by kernel_rfl, fun _ _ _ => by kernel_rfl, fun _ _ _ _ => by kernel_rfl, fun _ _ _ _ => by kernel_rfl⟩ HW.out HV _) ?_; rintro u w4 ⟨rfl, hb4⟩)
   ·have hgt : 20 < P.tall y := by omega
    have HC4 : Hid (codeOf t = 3) := by rw [HC3.out, if_pos hgt]; rfl
    go_ret2
    exact ⟨.inr ⟨by rw [HC4.out]; omega, _, by rw [HC4.out]; rfl⟩, B3.out.trans (hb4.mono B3.out.size)⟩
   ·have hgt : ¬ 20 < P.tall y := by omega
    have HC4 : Hid (codeOf t = 0) := by rw [HC3.out, if_neg hgt]; rfl
    go_ret2
    exact ⟨.inl ⟨HC4.out, by rw [HT2.out, HV.out]; rfl⟩, B3.out.trans (hb4.mono B3.out.size)⟩
  ·rw [decide_eq_false hk]
   have he : toksAt t k3 ≠ [] := by rw [← D3.out]; exact toks_ne (by omega) D4.out
   have HC3 : Hid (codeOf t = 2) := by
    rw [HC2.out]
    cases h : toksAt t k3 with
    | nil => exact absurd h he
    | cons a l => rfl
   clear he hk HC2 D3 D4
   go_wp2_with fail
   refine (fault_any w.heap.size t k4 _ D5.out).mono ?_
   rintro e w4 ⟨rfl, hb4⟩
   have B4 : Hid (Below w.heap.size w w4) := B3.out.trans (hb4.below B3.out.size nL)
   clear hb4
   go_wp2_with fail
   go_ret2
   exact ⟨.inr ⟨by rw [HC3.out]; omega, _, by rw [HC3.out]; rfl⟩, B4.out⟩
 ·have HC2 : Hid (codeOf t = 2) := by rw [HC1.out, f1]; rfl
  have B2 : Hid (Below w.heap.size w w2) := B1.out.trans (f4.below B1.out.size nL)
  clear f1 f4 HT1 HC1
  simp only [fltV]
  go_wp2_with fail
  go_ret2
  exact ⟨.inr ⟨by rw [HC2.out]; omega, q, by rw [HC2.out]; rfl⟩, B2.out⟩

set_option maxHeartbeats 400000 in
theorem isRead_any (t : ByteArray) (w : World) (hm : t.size ≤ maxLen) :
  Calls Tryz.prog 135 #[.string t] w fun e w' => e = .returned (.bool (decide (codeOf t = 0))) ∧ Below w.heap.size w w' := by
 go_enter Tryz.func135, Tryz.ntmps135
 go_wp2_with fail
 refine (read_any t _ hm).mono ?_
 rintro e w1 ⟨⟨h1, rfl⟩ | ⟨h1, q, rfl⟩, hb⟩
 ·have HC : Hid (decide (codeOf t = 0) = true) := decide_eq_true h1
  clear h1
  go_wp2_with fail
  go_ret
  exact ⟨ret_bool HC.out.symm, hb⟩
 ·have HC : Hid (decide (codeOf t = 0) = false) := decide_eq_false h1
  clear h1
  go_wp2_with fail
  go_ret
  exact ⟨ret_bool HC.out.symm, hb⟩

end Go.Proofs.YtihnjndnkgnmaaaGreat

namespace Go.Proofs.YtihnjndnkgnmaaaGreat
open Go.RowKit

def inR (n a b : Int) : Bool := decide (a ≤ n) && decide (n ≤ b)

set_option maxHeartbeats 400000 in
theorem isIn_any (n a b : Int) (w : World) :
  Calls Tryz.prog 63 #[.int .i64 n, .int .i64 a, .int .i64 b] w fun e w' => e = .returned (.bool (inR n a b)) ∧ Below w.heap.size w w' := by
 by_cases h1 : a ≤ n
 ·by_cases h2 : n ≤ b
  ·have HC : Hid (inR n a b = true) := by show _ = _; simp [inR, h1, h2]
   go_enter Tryz.func63, Tryz.ntmps63
   go_wp2_with fail
   go_ret
   exact ⟨ret_bool HC.out.symm, by go_grown⟩
  ·have HC : Hid (inR n a b = false) := by show _ = _; simp [inR, h2]
   go_enter Tryz.func63, Tryz.ntmps63
   go_wp2_with fail
   go_ret
   exact ⟨ret_bool HC.out.symm, by go_grown⟩
 ·have HC : Hid (inR n a b = false) := by show _ = _; simp [inR, h1]
  go_enter Tryz.func63, Tryz.ntmps63
  go_wp2_with fail
  go_ret
  exact ⟨ret_bool HC.out.symm, by go_grown⟩

set_option maxHeartbeats 400000 in
theorem isSize_any (n : Int) (w : World) :
  Calls Tryz.prog 116 #[.int .i64 n] w fun e w' => e = .returned (.bool (inR n 0 1000)) ∧ Below w.heap.size w w' := by
 go_enter Tryz.func116, Tryz.ntmps116
 go_wp2_with fail
 refine (isIn_any _ _ _ _).mono ?_
 rintro e w1 ⟨rfl, hb⟩
 go_wp2_with fail
 go_ret
 exact ⟨rfl, hb⟩

def nameOrNone (s : ByteArray) : Bool := decide (s.size = 0) || P.nameOk s

set_option maxHeartbeats 400000 in
theorem isNameOrNone_any (s : ByteArray) (w : World) (hs : s.size ≤ maxLen) :
  Calls Tryz.prog 137 #[.string s] w fun e w' => e = .returned (.bool (nameOrNone s)) ∧ Below w.heap.size w w' := by
 by_cases h : s = ⟨#[]⟩
 ·have HC : Hid (nameOrNone s = true) := by show _ = _; subst h; rfl
  have hte : s.toList = [] := by subst h; simp
  clear h
  go_enter Tryz.func137, Tryz.ntmps137
  go_wp2_with fail
  go_ret
  exact ⟨ret_bool HC.out.symm, by go_grown⟩
 ·have HC : Hid (nameOrNone s = P.nameOk s) := by
   show _ = _
   have : s.size ≠ 0 := fun e => h (ByteArray.ext (Array.eq_empty_of_size_eq_zero e))
   simp [nameOrNone, this]
  have hte : ¬ s.toList = [] := by
   rw [ByteArray.toList_eq]
   exact fun e => h (by cases s with | mk x => cases x; simp at e; simp [e])
  have HZ : Hid (s.size ≤ maxLen) := hs
  clear h hs
  go_enter Tryz.func137, Tryz.ntmps137
  go_wp2_with fail
  refine (isName_any _ _ HZ.out).mono ?_
  rintro e w1 ⟨rfl, rfl⟩
  go_wp2_with fail
  go_ret
  have hem : s.toList.isEmpty = false := by simpa using hte
  exact ⟨ret_bool (by rw [hem, Bool.false_or]; exact HC.out.symm), by go_grown⟩

def likeOk (l : Lik) : Bool := decide (codeOf l.select = 0) && inR l.weight (-9) 9

def likesOk (xs : List Lik) : Bool := decide (xs.length ≤ 5) && xs.all likeOk

set_option maxHeartbeats 1000000 in
set_option maxRecDepth 100000 in
theorem likesOk_any (xs : List Lik) (a : Option Addr) (cap lo : Nat) (w : World) (hin : SliceC LikC 2 lo w a xs) :
  Calls Tryz.prog 136 #[.slice a xs.length cap] w fun e w' => e = .returned (.bool (likesOk xs)) ∧ Below w.heap.size w w' := by
 have hlen := hin.1
 unfold maxLen at hlen
 have HI : Hid (SliceC LikC 2 lo w a xs) := hin
 clear hin
 by_cases h5 : xs.length ≤ 5
 ·go_enter Tryz.func136, Tryz.ntmps136
  go_wp2_with fail
  go_loopw [10] (fun i wr => ∃ k : Nat, k ≤ xs.length ∧ i = .int .i64 k ∧ Hid (∀ j x, j < k → xs[j]? = some x → likeOk x = true) ∧ Below w.heap.size w wr) (fun i _ => xs.length - (intOf i).toNat)
  case atStart => exact ⟨0, Nat.zero_le _, rfl, fun j x h => absurd h (Nat.not_lt_zero _), by go_grown⟩
  case round =>
   obtain ⟨k, hk, rfl, ho, hbel⟩ := hrel
   by_cases hlt : k < xs.length
   ·obtain ⟨x, hx⟩ : ∃ x, xs[k]? = some x := ⟨xs[k], List.getElem?_eq_getElem hlt⟩
    obtain ⟨b, o, rfl, _, _, hc⟩ := (HI.out.below LikC.holds hbel nL).at hx
    obtain ⟨q0, q1, z0⟩ := hc
    simp only [Nat.add_zero] at q0 q1
    have HX : Hid (xs[k]? = some x) := hx
    have HZ : Hid (x.select.size ≤ maxLen) := z0
    have HB : Hid (Below w.heap.size w wr) := hbel
    have HSZ : Hid (w.heap.size ≤ wr.heap.size) := hbel.size
    clear hx z0 hbel
    go_upto_region 6 with fail
    have e0 : (wr.alloc (Obj.cells #[.string x.select, .int .i64 x.weight] 125)).cell? ⟨wr.heap.size, 0, none⟩ = some (.string x.select) := by simp
    have e1 : (wr.alloc (Obj.cells #[.string x.select, .int .i64 x.weight] 125)).cell? ⟨wr.heap.size, 1, none⟩ = some (.int .i64 x.weight) := by simp
    have HB4 : Hid (Below w.heap.size w (wr.alloc (Obj.cells #[.string x.select, .int .i64 x.weight] 125))) := HB.out.alloc HSZ.out _
    have hs4 : wr.heap.size < (wr.alloc (Obj.cells #[.string x.select, .int .i64 x.weight] 125)).heap.size := by simp
    clear HB HSZ q0 q1
    generalize wr.alloc (Obj.cells #[.string x.select, .int .i64 x.weight] 125) = w4 at *
    cases hr : decide (codeOf x.select = 0)
    ·have HC : Hid (likesOk xs = false) := by
      show _ = _
      have hm := List.mem_of_getElem? HX.out
      have : likeOk x = false := by simp [likeOk, hr]
      have : xs.all likeOk = false := List.all_eq_false.mpr ⟨x, hm, by simp [this]⟩
      simp [likesOk, this]
     have HR : Hid (decide (codeOf x.select = 0) = false) := hr
     clear hr
     go_wp2_with fail
     refine (isRead_any _ _ HZ.out).mono ?_
     rintro e w5 ⟨rfl, hb5⟩
     rw [HR.out]
     have HB5 : Hid (Below w.heap.size w w5) := HB4.out.trans (hb5.mono HB4.out.size)
     clear hb5
     go_wp2_with fail
     go_ret
     exact ⟨ret_bool HC.out.symm, HB5.out⟩
    ·have HR : Hid (decide (codeOf x.select = 0) = true) := hr
     go_wp2_with fail
     refine (isRead_any _ _ HZ.out).mono ?_
     rintro e w5 ⟨rfl, hb5⟩
     rw [HR.out]
     have e5 : w5.cell? ⟨wr.heap.size, 1, none⟩ = some (.int .i64 x.weight) := by rw [hb5.cell (p := ⟨wr.heap.size, 1, none⟩) hs4]; exact e1
     have HB5 : Hid (Below w.heap.size w w5) := HB4.out.trans (hb5.mono HB4.out.size)
     clear hb5 e0 e1 hs4 HB4
     go_wp2_with fail
     refine (isIn_any _ _ _ _).mono ?_
     rintro e w6 ⟨rfl, hb6⟩
     have HB6 : Hid (Below w.heap.size w w6) := HB5.out.trans (hb6.mono HB5.out.size)
     clear hb6 HB5 e5
     cases hi : inR x.weight (-9) 9
     ·have HC : Hid (likesOk xs = false) := by
       show _ = _
       have hm := List.mem_of_getElem? HX.out
       have : likeOk x = false := by simp [likeOk, hi]
       have : xs.all likeOk = false := List.all_eq_false.mpr ⟨x, hm, by simp [this]⟩
       simp [likesOk, this]
      clear hi hr
      go_wp2_with fail
      go_ret
      exact ⟨ret_bool HC.out.symm, HB6.out⟩
     ·have HO : Hid (∀ j y, j < k + 1 → xs[j]? = some y → likeOk y = true) := by
       intro j y hj hy
       by_cases e : j = k
       ·subst e
        rw [HX.out] at hy
        cases hy
        simp only [likeOk, hi, HR.out, Bool.and_self]
       ·exact ho.out j y (by omega) hy
      clear hi hr ho
      go_wp2_with fail
      go_roundw
      case rel => exact ⟨k + 1, by omega, by go_num, HO, HB6.out⟩
      case measure => simp [intOf]; omega
   ·have hke : k = xs.length := by omega
    subst hke
    have HC : Hid (likesOk xs = true) := by
     show _ = _
     simp only [likesOk, h5, decide_true, Bool.true_and, List.all_eq_true]
     intro x hx
     obtain ⟨j, hj, e⟩ := List.mem_iff_getElem.mp hx
     exact ho.out j x hj (by rw [List.getElem?_eq_getElem hj, e])
    clear ho
    go_wp2_with fail
    go_ret
    exact ⟨ret_bool HC.out.symm, hbel⟩
 ·have HC : Hid (likesOk xs = false) := by show _ = _; simp [likesOk, h5]
  go_enter Tryz.func136, Tryz.ntmps136
  go_wp2_with fail
  go_ret
  exact ⟨ret_bool HC.out.symm, by go_grown⟩

end Go.Proofs.YtihnjndnkgnmaaaGreat

namespace Go.Proofs.YtihnjndnkgnmaaaGreat
open Go.RowKit

set_option maxHeartbeats 1000000 in
set_option maxRecDepth 100000 in
theorem indexByte_any (s : ByteArray) (c : Int) (w : World) :
  Calls Tryz.prog 164 #[.string s, .int .u8 c] w fun e w' => e = .returned (.int .i64 (Lib.indexByte s.data.toList c.toNat.toUInt8)) ∧ w' = w := by
 go_enter Tryz.func164, Tryz.ntmps164
 go_wp2
 rw [run_callFunc_extern Tryz.func171 (by kernel_rfl) (by kernel_rfl) (by kernel_rfl) (e := Extern.BytealgIndexByte.indexByte) (by kernel_rfl), Lib.run_indexByteString]
 simp only [Result.andThen]
 rw [Oper.upon_value]
 go_wp2
 go_ret
 exact ⟨rfl, rfl⟩

def eqIdx (s : ByteArray) : Int := Lib.indexByte s.data.toList 61
def mName (s : ByteArray) : ByteArray := if eqIdx s < 0 then s else s.extract 0 (eqIdx s).toNat
def mVal (s : ByteArray) : ByteArray := if eqIdx s < 0 then ⟨#[]⟩ else s.extract ((eqIdx s).toNat + 1) s.size
def isMk (s : ByteArray) : Bool := P.nameOk (mName s) && (decide (eqIdx s < 0) || P.nameOk (mVal s))

set_option maxHeartbeats 2000000 in
set_option maxRecDepth 100000 in
theorem index_any (s : ByteArray) (w : World) :
  Calls Tryz.prog 158 #[.string s, .string ⟨#[61]⟩] w fun e w' => e = .returned (.int .i64 (eqIdx s)) ∧ w' = w := by
 go_enter Tryz.func158, Tryz.ntmps158
 go_wp2_with (go_at_call 164; refine (indexByte_any _ _ _).mono ?_; rintro e w' ⟨rfl, rfl⟩)
 ·have h : ([61] == s.toList) = true := by assumption
  go_ret
  refine ⟨?_, rfl⟩
  have e : s.data.toList = [61] := by rw [← Lib.toList_data]; exact (beq_iff_eq.1 h).symm
  unfold eqIdx
  rw [e]
  simp [Lib.indexByte]
 ·go_ret
  exact ⟨rfl, rfl⟩

theorem eqIdx_ge (s : ByteArray) : -1 ≤ eqIdx s := Lib.indexByte_ge _ _

theorem eqIdx_lt {s : ByteArray} {o : Nat} (h : eqIdx s = o) : o < s.size := by
 have := (Lib.indexByte_some h).1
 rcases Nat.lt_or_ge o s.data.toList.length with h' | h'
 ·simpa using h'
 ·rw [List.getElem?_eq_none h'] at this; cases this

set_option maxHeartbeats 2000000 in
set_option maxRecDepth 100000 in
theorem cutLite_any (s : ByteArray) (w : World) (hs : s.size ≤ maxLen) :
  Calls Tryz.prog 151 #[.string s, .string ⟨#[61]⟩] w fun e w' => e = .returned (.tuple #[.string (mName s), .string (mVal s), .bool (!decide (eqIdx s < 0))]) ∧ Below w.heap.size w w' := by
 unfold maxLen at hs
 by_cases hn : eqIdx s < 0
 ·have HN : Hid (eqIdx s < 0) := hn
  have h1 : eqIdx s = -1 := by have := eqIdx_ge s; omega
  go_enter Tryz.func151, Tryz.ntmps151
  go_wp2_with (go_at_call 158; refine (index_any _ _).mono ?_; rintro e w' ⟨rfl, rfl⟩; rw [h1])
  go_ret3
  exact ⟨by unfold mName mVal; rw [if_pos HN.out, if_pos HN.out, decide_eq_true HN.out]; rfl, by go_grown⟩
 ·obtain ⟨o, ho⟩ : ∃ o : Nat, eqIdx s = o := ⟨(eqIdx s).toNat, by omega⟩
  have hlt := eqIdx_lt ho
  have HN : Hid (¬ eqIdx s < 0) := hn
  have HO : Hid (eqIdx s = o) := ho
  clear hn
  go_enter Tryz.func151, Tryz.ntmps151
  go_wp2_with (go_at_call 158; refine (index_any _ _).mono ?_; rintro e w' ⟨rfl, rfl⟩; rw [HO.out])
  have i0 : (0 : Int) ≤ (o : Int) := by omega
  have i1 : (o : Int) ≤ (s.size : Int) := by omega
  obtain ⟨n1, hn1⟩ : ∃ n1 : Nat, n1 = o + 1 := ⟨_, rfl⟩
  have i2 : (n1 : Int) ≤ (s.size : Int) := by omega
  have i3 : (0 : Int) ≤ (n1 : Int) := by omega
  have HW : Hid (IntKind.i64.wrap ((o : Int) + 1) = (n1 : Int)) := by show _ = _; rw [IntKind.wrap_i64]; omega
  have HN1 : Hid (n1 = o + 1) := hn1
  clear hn1
  clear ho
  refine wp_region_quiet_below (by kernel_rfl) (by kernel_rfl) ?_
  repeat (quiet_step (fail))
  rw [HW.out]
  repeat (quiet_step (fail))
  refine wpQuiet_nil ?_
  intro _ hw'
  obtain ⟨⟨dq, osq⟩, hw''⟩ := hw'
  have hB := below_regrown w' dq osq
  simp only [] at hw''
  rw [← hw''] at hB
  clear hw''
  have HB : Hid (Below w'.heap.size w' _) := hB
  clear hB
  go_wp2_with fail
  go_ret3
  have HN2 : ¬ eqIdx s < 0 := by have := HN.out; omega
  refine ⟨?_, HB.out⟩
  unfold mName mVal
  rw [if_neg HN2, if_neg HN2, decide_eq_false HN2, HO.out]
  simp [HN1.out]

set_option maxHeartbeats 1000000 in
theorem cut_any (s : ByteArray) (w : World) (hs : s.size ≤ maxLen) :
  Calls Tryz.prog 134 #[.string s, .string ⟨#[61]⟩] w fun e w' => e = .returned (.tuple #[.string (mName s), .string (mVal s), .bool (!decide (eqIdx s < 0))]) ∧ Below w.heap.size w w' := by
 have HS : Hid (s.size ≤ maxLen) := hs
 clear hs
 go_enter Tryz.func134, Tryz.ntmps134
 go_wp2_with fail
 refine (cutLite_any s _ HS.out).mono ?_
 rintro e w1 ⟨rfl, hb⟩
 have HB : Hid (Below w.heap.size w w1) := (show Below w.heap.size w _ by go_grown).trans (hb.mono (by simp))
 clear hb
 go_wp2_with fail
 go_ret3
 exact ⟨rfl, HB.out⟩

theorem mName_size {s : ByteArray} (hs : s.size ≤ maxLen) : (mName s).size ≤ maxLen := by
 unfold mName
 split
 ·exact hs
 ·simp [ByteArray.size_extract]; omega

theorem mVal_size {s : ByteArray} (hs : s.size ≤ maxLen) : (mVal s).size ≤ maxLen := by
 unfold mVal
 split
 ·simp [ByteArray.size, maxLen]
 ·simp [ByteArray.size_extract]; omega

set_option maxHeartbeats 1000000 in
theorem isMark_any (s : ByteArray) (w : World) (hs : s.size ≤ maxLen) :
  Calls Tryz.prog 133 #[.string s] w fun e w' => e = .returned (.bool (isMk s)) ∧ Below w.heap.size w w' := by
 have HS : Hid (s.size ≤ maxLen) := hs
 have HM : Hid (isMk s = (P.nameOk (mName s) && (decide (eqIdx s < 0) || P.nameOk (mVal s)))) := rfl
 clear hs
 generalize isMk s = R at *
 go_enter Tryz.func133, Tryz.ntmps133
 go_wp2_with fail
 refine (cut_any s _ HS.out).mono ?_
 rintro e w1 ⟨rfl, hb⟩
 have HB : Hid (Below w.heap.size w w1) := (show Below w.heap.size w _ by go_grown).trans (hb.mono (by simp))
 clear hb
 have Z1 : Hid ((mName s).size ≤ maxLen) := mName_size HS.out
 have Z2 : Hid ((mVal s).size ≤ maxLen) := mVal_size HS.out
 generalize mName s = x at *
 generalize mVal s = y at *
 generalize decide (eqIdx s < 0) = b at *
 go_wp2_with fail
 refine (isName_any x _ Z1.out).mono ?_
 rintro e w2 ⟨rfl, rfl⟩
 cases hx : P.nameOk x with
 | false =>
  rw [hx] at HM
  go_wp2_with fail
  go_ret
  exact ⟨ret_bool (by rw [HM.out]; rfl), HB.out⟩
 | true =>
  rw [hx] at HM
  cases b with
  | true =>
   go_wp2_with fail
   go_ret
   exact ⟨ret_bool (by rw [HM.out]; rfl), HB.out⟩
  | false =>
   go_wp2_with fail
   refine (isName_any y _ Z2.out).mono ?_
   rintro e w2 ⟨rfl, rfl⟩
   generalize P.nameOk y = c at *
   go_wp2_with fail
   go_ret
   exact ⟨ret_bool (by rw [HM.out]; simp), HB.out⟩

end Go.Proofs.YtihnjndnkgnmaaaGreat
