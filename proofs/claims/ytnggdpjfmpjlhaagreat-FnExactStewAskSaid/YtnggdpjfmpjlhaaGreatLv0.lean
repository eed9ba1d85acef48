import Derived.Test.YtnggdpjfmpjlhaaGreatJ6
import Derived.RangeFuncNested
import Derived.RangeFuncBound
import Derived.RangeFuncCalls
import Derived.RangeFuncLeaves
namespace Go.Proofs.YtnggdpjfmpjlhaaGreat
open Go.RowKit

def tyP (ty : Nat) : Prop := ty = 115 ∨ ty = 54 ∨ ty = 9

structure KpT (G : Nat → Prop) (n₀ : Nat) (w w' : World) : Prop where
 os : w'.os = w.os
 tape : w'.tape = w.tape
 output : w'.output = w.output
 size : w.heap.size ≤ w'.heap.size
 block : ∀ k, k < n₀ → ¬ G k → w'.heap[k]? = w.heap[k]?
 kind : ∀ (k : Nat) cs ty, w.heap[k]? = some (Obj.cells cs ty) → tyP ty → w'.heap[k]? = w.heap[k]?

theorem KpT.refl (G : Nat → Prop) (n₀ : Nat) (w : World) : KpT G n₀ w w := ⟨rfl, rfl, rfl, Nat.le_refl _, fun _ _ _ => rfl, fun _ _ _ _ _ => rfl⟩
theorem KpT.trans {G : Nat → Prop} {n₀ : Nat} {a b c : World} (h : KpT G n₀ a b) (k : KpT G n₀ b c) : KpT G n₀ a c :=
 ⟨k.os.trans h.os, k.tape.trans h.tape, k.output.trans h.output, Nat.le_trans h.size k.size, fun i hi hp => (k.block i hi hp).trans (h.block i hi hp), fun i cs ty hi ht => (k.kind i cs ty ((h.kind i cs ty hi ht).trans hi) ht).trans (h.kind i cs ty hi ht)⟩
theorem KpT.of_below {G : Nat → Prop} {n₀ : Nat} {w w' : World} (h : Below w.heap.size w w') (hn : n₀ ≤ w.heap.size) : KpT G n₀ w w' :=
 ⟨h.os, h.tape, h.output, h.size, fun k hk _ => h.block k (Nat.lt_of_lt_of_le hk hn), fun k _ _ hk _ => h.block k (Array.getElem?_eq_some_iff.1 hk).1⟩
theorem KpT.setCells {G : Nat → Prop} {n₀ : Nat} {a w : World} (h : KpT G n₀ a w) {p : Nat} {cs : Array Value} {ty : Nat} (hp : Blk p cs ty w) (ht : ¬ tyP ty) (hg : n₀ ≤ p ∨ G p) (o : Nat) (vs : List Value) : KpT G n₀ a (w.setCells p o vs) := by
 have hs : ∀ (vs : List Value) (o : Nat) (w : World), (w.setCells p o vs).os = w.os ∧ (w.setCells p o vs).tape = w.tape ∧ (w.setCells p o vs).output = w.output ∧ (w.setCells p o vs).heap.size = w.heap.size ∧ ∀ k, k ≠ p → (w.setCells p o vs).heap[k]? = w.heap[k]? := by
  intro vs
  induction vs with
  | nil => exact fun o w => ⟨rfl, rfl, rfl, rfl, fun _ _ => rfl⟩
  | cons u r ih =>
   intro o w
   obtain ⟨h1, h2, h3, h4, h5⟩ := ih (o + 1) (w.setCell ⟨p, o, none⟩ u)
   exact ⟨h1, h2, h3, h4.trans (by simp), fun k hk => (h5 k hk).trans (Below.heap_setCell _ _ _ _ hk)⟩
 obtain ⟨h1, h2, h3, h4, h5⟩ := hs vs o w
 refine h.trans ⟨h1, h2, h3, Nat.le_of_eq h4.symm, fun k hk hn => h5 k (fun e => ?_), fun k cs' ty' hk ht' => h5 k (fun e => ?_)⟩
 ·subst e
  rcases hg with hg | hg
  ·omega
  ·exact hn hg
 ·subst e
  rw [show w.heap[k]? = _ from hp] at hk
  cases hk
  exact ht ht'
theorem KpT.set {G : Nat → Prop} {n₀ : Nat} {a w : World} (h : KpT G n₀ a w) {p : Nat} {cs : Array Value} {ty : Nat} (hp : Blk p cs ty w) (ht : ¬ tyP ty) (hg : n₀ ≤ p ∨ G p) (o : Nat) (v : Value) : KpT G n₀ a (w.setCell ⟨p, o, none⟩ v) := h.setCells hp ht hg o [v]
theorem KpT.below {G : Nat → Prop} {n₀ B : Nat} {w w' : World} (h : KpT G n₀ w w') (hB : B ≤ n₀) (hG : ∀ k, G k → B ≤ k) : Below B w w' := ⟨h.os, h.tape, h.output, h.size, fun k hk => h.block k (by omega) (fun hg => by have := hG k hg; omega)⟩
theorem KpT.blk {G : Nat → Prop} {n₀ : Nat} {w w' : World} (h : KpT G n₀ w w') {p : Nat} {cs : Array Value} {ty : Nat} (hp : Blk p cs ty w) (ht : tyP ty) : Blk p cs ty w' := (h.kind p cs ty hp ht).trans hp
theorem KpT.blk' {G : Nat → Prop} {n₀ : Nat} {w w' : World} (h : KpT G n₀ w w') {p : Nat} {cs : Array Value} {ty : Nat} (hp : Blk p cs ty w) (h1 : p < n₀) (h2 : ¬ G p) : Blk p cs ty w' := (h.block p h1 h2).trans hp
theorem KpT.putObj {G : Nat → Prop} {n₀ : Nat} (W : World) {l : Nat} {o : Obj} (o' : Obj) (hl : n₀ ≤ l) (h : W.heap[l]? = some o) (hc : o.isCells = false) : KpT G n₀ W (W.putObj l o') :=
 ⟨rfl, rfl, rfl, (grownBy_putObj' W l o').size, fun k hk _ => World.putObj_heap_other (by omega), fun k cs ty hk _ => World.putObj_heap_other (fun e => by subst e; rw [h] at hk; cases hk; cases hc)⟩

def SeqAll {α : Type} (P : Program) (gf : Nat) (lb : Array Value) (encs : α → Array Value) (G : Nat → Prop) (n₀ : Nat) (K : World → Prop) (N : Nat) (S : List α → Prop) (w : World) : Prop :=
 ∀ (l : Nat) (J : List α → World → Prop) (W : World), Below w.heap.size w W → n₀ + 2 ≤ W.heap.size → OwnFrom W.heap.size J → (∀ pre W1, J pre W1 → K W1) →
  (∀ pre x W1, J pre W1 → pre.length < N → YieldAt Fence.wide 0 P l (encs x) W1 fun e W' => e = .returned (.bool true) ∧ J (pre ++ [x]) W' ∧ KpT G n₀ W1 W' ∧ KeepsFrom (n₀ + 2) W1 W') →
  J [] W →
  Calls P gf (#[.func (.yield l) #[] #[]] ++ lb) W fun e W' => (∃ v, e = .returned v) ∧ ∃ xs, S xs ∧ J xs W'

theorem YieldAt.wide {P : Program} {l m m' : Nat} {args : Array Value} {W : World} {R : Ending → World → Prop} (h : YieldAt Fence.wide m P l args W R) (l' : Nat) : YieldAt (Fence.wide.inRound l') m' P l args W R := by
 obtain ⟨fn, tmps, assign, body, hy, hR⟩ := h
 exact ⟨fn, tmps, assign, body, hy, trivial, fun c cs _ => hR.2 c cs (room_wide _)⟩

theorem wpIn_wideRound {P : Program} {l m n : Nat} {c : Code} {Q : Exit → Act → World → Prop} {a : Act} {w : World} (h : c.wpIn (Fence.wide.inRound l) m P Q a w) : c.wpIn (Fence.wide.inRound l) n P Q a w :=
 fun b k cs h1 h2 _ => h b k cs h1 h2 (fun _ h => by cases h)

def goOn {α : Type} (B : Nat) (G : Nat → Prop) (I : List α → World → Prop) (xs : List α) (W : World) : Exit → Act → World → Prop
 | .normal, _, W' => KeepsFrom B W W' ∧ KpT G B W W' ∧ I xs W'
 | _, _, _ => False

set_option maxHeartbeats 2000000 in
theorem range_all {α : Type} {P : Program} {n : Nat} {g : Operand} {ps : Array Tmp} {assign body : Code} {Q : Exit → Act → World → Prop} {a : Act} {w : World}
  (G : Nat → Prop) (K : World → Prop) {gf : Nat} {lb : Array Value} (hg : a.eval g = .func (.func gf) #[] lb) (eg : ∀ args w, (callFunc gf args).run P w = .ok (.enter gf args) w)
  {encs : α → Array Value} {S : List α → Prop} {N : Nat} (hseq : SeqAll P gf lb encs G w.heap.size K N S w) (hps : ∀ x, (encs x).size = ps.size)
  (I : List α → World → Prop) (hI : OwnFrom w.heap.size I) (hIK : ∀ s W, I s W → K W) (h0 : I [] w) (Ax : α → Act → World → Prop) (hAx : ∀ x a', OwnFrom w.heap.size (fun (_ : Unit) W => Ax x a' W))
  (hassign : ∀ (l : Nat) (pre : List α) (x : α) (W : World) (K' : Act → World → Prop), I pre W → (∀ a' W', KeepsFrom w.heap.size W W' → KpT G w.heap.size W W' → I pre W' → Ax x a' W' → K' a' W') →
   assign.wpIn (Fence.wide.inRound l) 5 P (Exit.then K' (fun _ _ _ => False)) { tmps := (ps.zip (encs x)).foldl (fun t (p, v) => t.setIfInBounds p v) a.tmps, defers := [] } W)
  (hbody : ∀ (l : Nat) (pre : List α) (x : α) (a' : Act) (W : World), I pre W → Ax x a' W → pre.length < N → body.wpIn (Fence.wide.inRound l) 5 P (goOn w.heap.size G I (pre ++ [x]) W) a' W)
  (hdone : ∀ (D : Nat) (xs : List α) (W : World), w.heap.size ≤ D → S xs → I xs W → W.heap[D]? = some (.deferred (some [])) → Q .normal { a with defers := { target := .collected D, args := #[] } :: a.defers } W) :
  (Code.rangeFunc g ps assign body).wpIn Fence.wide n P Q a w := by
 refine wpIn_rangeFunc fun fn hfn => ?_
 rw [show Fence.wide.round = none from rfl]
 obtain ⟨rec, hrec⟩ : ∃ rec : LoopState → Option Code → Loop, rec = fun st pe => { state := st, pending := pe, fn, tmps := a.tmps, params := ps, assign, body, defers := w.heap.size } := ⟨_, rfl⟩
 obtain ⟨L, hL⟩ : ∃ L, L = w.heap.size + 1 := ⟨_, rfl⟩
 obtain ⟨W1, hW1⟩ : ∃ W1, W1 = (w.alloc (.deferred (some []))).alloc (.loop (rec .ready none)) := ⟨_, rfl⟩
 have e1 : W1.heap[L]? = some (.loop (rec .ready none)) := by
  have := World.alloc_heap_new (w.alloc (.deferred (some []))) (.loop (rec .ready none))
  rw [hW1, hL]
  rwa [World.size_alloc] at this
 have e2 : W1.heap[w.heap.size]? = some (.deferred (some [])) := by
  rw [hW1]
  exact (Below.heap_alloc _ _ _ (by simp)).trans (World.alloc_heap_new w _)
 have e3 : W1.heap.size = w.heap.size + 2 := by rw [hW1]; simp
 have hb : Below w.heap.size w W1 := by rw [hW1]; exact ((Below.refl _ w).alloc (Nat.le_refl _) _).alloc (by simp) _
 have hI1 : I [] W1 := by rw [hW1]; exact hI.alloc _ (hI.alloc _ h0)
 have put : ∀ {s : List α} {W : World} {r : Loop} (o' : Obj), I s W → W.heap[L]? = some (.loop r) → I s (W.putObj L o') := fun o' hi hl => hI.putObj o' hi (by omega) hl rfl
 refine ⟨L, [{ target := .collected w.heap.size, args := #[] }], W1, { target := .fn (.func gf) lb, args := #[.func (.yield L) #[] #[]] }, W1, gf, #[.func (.yield L) #[] #[]] ++ lb, W1, ?_, ?_, fun _ _ => trivial, ?_, (fun h => by cases h), ?_⟩
 ·rw [hW1, hL, hrec]; exact run_enterLoop_outer _ _ _ _ _
 ·simp only [resolve, hg]
  simp [go_sem]
 ·simp [invoke, go_sem, eg]
 refine callsIn_wide.2 ((hseq L (fun pre W => I pre W ∧ W.heap[L]? = some (.loop (rec .ready none)) ∧ W.heap[w.heap.size]? = some (.deferred (some []))) W1 hb (by omega) ?_ (fun pre W h => hIK _ _ h.1) ?_ ⟨hI1, e1, e2⟩).mono ?_)
 ·rintro s A B row ⟨h1, h2, h3⟩ hgr hr
  have far : ∀ k, k < w.heap.size + 2 → k < A.heap.size → B.heap[k]? = A.heap[k]? := fun k hk hk2 => hgr.block k hk2 (fun e => by have := (hr k e.symm).1; omega)
  exact ⟨hI s A B row h1 hgr (fun r e => ⟨by have := (hr r e).1; omega, (hr r e).2⟩), (far L (by omega) (Array.getElem?_eq_some_iff.1 h2).1).trans h2, (far _ (by omega) (Array.getElem?_eq_some_iff.1 h3).1).trans h3⟩
 ·rintro pre x W ⟨hi, hl, hk⟩ hlen
  have hy := run_yield (P := P) (args := encs x) hl (by rw [hrec]; exact hps x)
  rw [hrec] at hy
  refine ⟨fn, _, assign, body, hy, roundIn_of_wpIn hfn (wpIn_wideRound (m := 5) (hassign L pre x W _ hi ?_))⟩
  clear hy
  intro a' Wa ka kpa hia hax
  have hla := ka.same _ _ (by omega) hl rfl
  have hka := ka.same _ _ (Nat.le_refl _) hk rfl
  have hlt : L < Wa.heap.size := (Array.getElem?_eq_some_iff.1 hla).1
  refine ⟨_, run_beginRound hla (by rw [hrec]), ?_⟩
  obtain ⟨Wb, hWb⟩ : ∃ Wb, Wb = Wa.putObj L (.loop { rec .ready none with state := .busy }) := ⟨_, rfl⟩
  have hlb : Wb.heap[L]? = some (.loop { rec .ready none with state := .busy }) := by rw [hWb]; exact World.putObj_heap_same hlt
  have hkb : Wb.heap[w.heap.size]? = some (.deferred (some [])) := by rw [hWb]; exact (World.putObj_heap_other (by omega)).trans hka
  have kb : KpT G w.heap.size W Wb := kpa.trans (by rw [hWb]; exact KpT.putObj _ _ (by omega) hla rfl)
  have hib : I pre Wb := by rw [hWb]; exact put _ hia hla
  have haxb : Ax x a' Wb := by rw [hWb]; exact (hAx x a').putObj (s := ()) _ hax (by omega) hla rfl
  have kfb : KeepsFrom (w.heap.size + 2) W Wb := ⟨Nat.le_trans ka.size (by rw [hWb]; simp), fun k o hk ho hc => by rw [hWb]; exact (World.putObj_heap_other (by omega)).trans (ka.same k o (by omega) ho hc)⟩
  rw [← hWb]
  clear hWb
  refine wpIn_mono (wpIn_wideRound (m := 5) (hbody L pre x a' Wb hib haxb hlen)) ?_
  rintro e a3 W3 hp
  cases e with
  | normal =>
   obtain ⟨k3, kp3, hi3⟩ := hp
   have hl3 := k3.same _ _ (by omega) hlb rfl
   have hk3 := k3.same _ _ (Nat.le_refl _) hkb rfl
   have hr := run_endRound (P := P) none hl3
   refine ⟨_, _, hr, rfl, ⟨put _ hi3 hl3, ?_, (World.putObj_heap_other (by omega)).trans hk3⟩, kb.trans (kp3.trans (KpT.putObj _ _ (by omega) hl3 rfl)), kfb.trans ⟨Nat.le_trans k3.size (by simp), fun k o hk ho hc => (World.putObj_heap_other (by omega)).trans (k3.same k o (by omega) ho hc)⟩⟩
   rw [World.putObj_heap_same (Array.getElem?_eq_some_iff.1 hl3).1, hrec]
   rfl
  | ret => exact hp.elim
  | exit id => exact hp.elim
  | goto t => exact hp.elim
  | panic ch => exact hp.elim
  | outgrown => exact hp.elim
 ·rintro e W2 ⟨⟨v, rfl⟩, xs, hS, hi, hl, hk⟩
  have hr := run_endLoop (P := P) hl (by rw [hrec]; simp)
  exact ⟨none, _, by rw [hrec] at hr; exact hr, hdone _ xs _ (Nat.le_refl _) hS (put _ hi hl) ((World.putObj_heap_other (by omega)).trans hk)⟩

end Go.Proofs.YtnggdpjfmpjlhaaGreat
