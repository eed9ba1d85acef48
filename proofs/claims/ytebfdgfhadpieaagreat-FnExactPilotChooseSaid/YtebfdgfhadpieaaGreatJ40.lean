import Derived.Test.YtebfdgfhadpieaaGreatJ38
import Derived.Test.YtebfdgfhadpieaaGreatBtx
import Derived.RangeFuncNested
import Derived.RangeFuncBound
import Derived.RangeFuncCalls
import Derived.RangeFuncLeaves
import Derived.OwnWalkIn
import Derived.OrdersIn
namespace Go.Proofs.YtebfdgfhadpieaaGreat
open Go.RowKit
def n1C (y : Cpy) (b : Brt) : Int := likeTo (fun t => asksI t b.marks b.zone) y.likes y.likes.length
def n2C (x : Flt) (ci : Nat) (y : Cpy) (b : Brt) : Int := ((cntTo (znF x ci y.service b.zone) x.copies.length : Nat) : Int)
def n3C (x : Flt) (ci : Nat) (y : Cpy) (b : Brt) : Int := ((cntTo (bthF x ci y.service b.name) x.copies.length : Nat) : Int)
def n4C (x : Flt) (ci : Nat) (y : Cpy) (b : Brt) : Int := b.room - y.room - roomTo x ci b.name x.copies.length
theorem scoreA_n (x : Flt) (ci : Nat) (y : Cpy) (b : Brt) : scoreA x ci y b = #[.int .i64 (n1C y b), .int .i64 (n2C x ci y b), .int .i64 (n3C x ci y b), .int .i64 (n4C x ci y b)] := rfl
def btr (x : Flt) (ci : Nat) (y : Cpy) (b c : Brt) : Bool := betterB (n1C y b) (n2C x ci y b) (n3C x ci y b) (n4C x ci y b) (n1C y c) (n2C x ci y c) (n3C x ci y c) (n4C x ci y c) x.pack
def offT (x : Flt) (ci : Nat) (y : Cpy) : Nat → List (Nat × Brt)
 | 0 => []
 | k + 1 => match x.berths[k]? with
  | none => offT x ci y k
  | some b => if fitsI x ci y b false = 0 then offT x ci y k ++ [(k, b)] else offT x ci y k
def stepC (x : Flt) (ci : Nat) (y : Cpy) (o : Option (Nat × Brt)) (z : Nat × Brt) : Option (Nat × Brt) := match o with
 | none => some z
 | some v => if btr x ci y z.2 v.2 = true then some z else some v
def bestL (x : Flt) (ci : Nat) (y : Cpy) (l : List (Nat × Brt)) : Option (Nat × Brt) := l.foldl (stepC x ci y) none
theorem best_snoc (x : Flt) (ci : Nat) (y : Cpy) (l : List (Nat × Brt)) (z : Nat × Brt) : bestL x ci y (l ++ [z]) = stepC x ci y (bestL x ci y l) z := by
 unfold bestL
 rw [List.foldl_append]
 rfl
theorem fold_mem (x : Flt) (ci : Nat) (y : Cpy) : ∀ (l : List (Nat × Brt)) (o : Option (Nat × Brt)) (z : Nat × Brt), l.foldl (stepC x ci y) o = some z → z ∈ l ∨ o = some z
 | [], o, z, h => .inr h
 | a :: r, o, z, h => by
  rcases fold_mem x ci y r _ z h with h | h
  ·exact .inl (List.mem_cons_of_mem _ h)
  ·unfold stepC at h
   cases o with
   | none =>
    simp at h
    subst h
    exact .inl List.mem_cons_self
   | some v =>
    simp only at h
    split at h
    ·simp at h
     subst h
     exact .inl List.mem_cons_self
    ·exact .inr h
theorem best_mem {x : Flt} {ci : Nat} {y : Cpy} {l : List (Nat × Brt)} {z : Nat × Brt} (h : bestL x ci y l = some z) : z ∈ l := by
 rcases fold_mem x ci y l none z h with h | h
 ·exact h
 ·cases h
theorem off_skip {x : Flt} {ci : Nat} {y : Cpy} {k : Nat} {b : Brt} (h : x.berths[k]? = some b) (hf : ¬ fitsI x ci y b false = 0) : offT x ci y (k + 1) = offT x ci y k := by
 rw [offT, h]
 exact if_neg hf
theorem off_take {x : Flt} {ci : Nat} {y : Cpy} {k : Nat} {b : Brt} (h : x.berths[k]? = some b) (hf : fitsI x ci y b false = 0) : offT x ci y (k + 1) = offT x ci y k ++ [(k, b)] := by
 rw [offT, h]
 exact if_pos hf
theorem off_mem {x : Flt} {ci : Nat} {y : Cpy} : ∀ (k : Nat) (z : Nat × Brt), z ∈ offT x ci y k → x.berths[z.1]? = some z.2 ∧ z.1 < k
 | 0, z, h => by cases h
 | k + 1, z, h => by
  rw [offT] at h
  split at h
  ·have := off_mem k z h
   exact ⟨this.1, by omega⟩
  ·rename_i b hb
   split at h
   ·rcases List.mem_append.1 h with h | h
    ·have := off_mem k z h
     exact ⟨this.1, by omega⟩
    ·rw [List.mem_singleton.1 h]
     exact ⟨hb, Nat.lt_succ_self _⟩
   ·have := off_mem k z h
    exact ⟨this.1, by omega⟩
theorem off_len {x : Flt} {ci : Nat} {y : Cpy} : ∀ k, (offT x ci y k).length ≤ k
 | 0 => Nat.le_refl _
 | k + 1 => by
  have := off_len (x := x) (ci := ci) (y := y) k
  rw [offT]
  split
  ·omega
  ·split
   ·simp
    omega
   ·omega
def chT (x : Flt) (ci : Nat) (y : Cpy) (k : Nat) : Option (Nat × Brt) := bestL x ci y (offT x ci y k)
theorem chT_some {x : Flt} {ci : Nat} {y : Cpy} {k : Nat} {z : Nat × Brt} (h : chT x ci y k = some z) : x.berths[z.1]? = some z.2 ∧ z.1 < k := off_mem k z (best_mem h)
theorem chT_skip {x : Flt} {ci : Nat} {y : Cpy} {k : Nat} {b : Brt} (h : x.berths[k]? = some b) (hf : ¬ fitsI x ci y b false = 0) : chT x ci y (k + 1) = chT x ci y k := by
 unfold chT
 rw [off_skip h hf]
theorem chT_take {x : Flt} {ci : Nat} {y : Cpy} {k : Nat} {b : Brt} (h : x.berths[k]? = some b) (hf : fitsI x ci y b false = 0) : chT x ci y (k + 1) = stepC x ci y (chT x ci y k) (k, b) := by
 unfold chT
 rw [off_take h hf, best_snoc]
def nmC (o : Option (Nat × Brt)) : ByteArray := match o with
 | none => ⟨#[]⟩
 | some z => z.2.name
def chooseR (x : Flt) (cn : ByteArray) : ByteArray := if validI x = true then (match lastOf (cpN x) cn x.copies.length with
 | some ci => (match x.copies[ci]? with
  | some y => nmC (chT x ci y x.berths.length)
  | none => ⟨#[]⟩)
 | none => ⟨#[]⟩) else ⟨#[]⟩
theorem choose_bad {x : Flt} {cn : ByteArray} (h : validI x = false) : chooseR x cn = ⟨#[]⟩ := by
 unfold chooseR
 rw [if_neg (by rw [h]; decide)]
theorem choose_noC {x : Flt} {cn : ByteArray} (h : lastOf (cpN x) cn x.copies.length = none) : chooseR x cn = ⟨#[]⟩ := by
 unfold chooseR
 rw [h]
 split <;> rfl
theorem choose_yes {x : Flt} {cn : ByteArray} {ci : Nat} {y : Cpy} (hv : validI x = true) (h : lastOf (cpN x) cn x.copies.length = some ci) (hy : x.copies[ci]? = some y) : chooseR x cn = nmC (chT x ci y x.berths.length) := by
 unfold chooseR
 rw [if_pos hv, h]
 simp only [hy]
def setRow (cs : Array Value) : Nat → List Value → Array Value
 | _, [] => cs
 | o, v :: r => setRow (cs.setIfInBounds o v) (o + 1) r
theorem take_set_succ (v : Value) : ∀ (l : List Value) (o : Nat), o < l.length → (l.set o v).take (o + 1) = l.take o ++ [v]
 | [], _, h => by simp at h
 | a :: l, 0, _ => by simp
 | a :: l, o + 1, h => by
  have ih := take_set_succ v l o (by simpa using h)
  simp [ih]
theorem setRow_list : ∀ (vs : List Value) (cs : Array Value) (o : Nat), o + vs.length = cs.size → (setRow cs o vs).toList = cs.toList.take o ++ vs
 | [], cs, o, h => by
  have : cs.toList.length ≤ o := by simp at h; simp; omega
  simp [setRow, List.take_of_length_le this]
 | v :: r, cs, o, h => by
  have h' : o + (r.length + 1) = cs.size := by simpa using h
  have ih := setRow_list r (cs.setIfInBounds o v) (o + 1) (by simp; omega)
  simp only [setRow]
  rw [ih, Array.toList_setIfInBounds, take_set_succ v _ _ (by simp; omega)]
  simp
theorem setRow_all (vs : List Value) (cs : Array Value) (h : vs.length = cs.size) : setRow cs 0 vs = vs.toArray := by
 have := setRow_list vs cs 0 (by omega)
 apply Array.toList_inj.1
 rw [this]
 simp
theorem Blk.setRow {g : Nat} {t : TypeId} : ∀ (vs : List Value) (o : Nat) (cs : Array Value) (w : World), Blk g cs t w → Blk g (setRow cs o vs) t (w.setCells g o vs)
 | [], _, _, _, h => h
 | v :: r, o, _, _, h => Blk.setRow r (o + 1) _ _ (h.set o v)
theorem Blk.setAll {g : Nat} {cs : Array Value} {t : TypeId} {w : World} (h : Blk g cs t w) (vs : Array Value) (hl : vs.size = cs.size) : Blk g vs t (w.setCells g 0 vs.toList) := by
 have := h.setRow vs.toList 0
 rw [setRow_all vs.toList cs (by simpa using hl)] at this
 simpa using this
theorem Blk.grown {g : Nat} {cs : Array Value} {t : TypeId} {w w' : World} {row : Option Nat} (h : Blk g cs t w) (hg : w.grownBy w' row) (hr : some g ≠ row) : Blk g cs t w' := (hg.block g h.lt hr).trans h
theorem blk_setCells_other {g b : Nat} {cs : Array Value} {t : TypeId} (hne : g ≠ b) : ∀ (vs : List Value) (o : Nat) (w : World), Blk g cs t w → Blk g cs t (w.setCells b o vs)
 | [], _, _, h => h
 | v :: r, o, _, h => blk_setCells_other hne r (o + 1) _ (h.other (a := ⟨b, o, none⟩) hne v)
structure B2 (g hb : Nat) (w w' : World) : Prop where
 os : w'.os = w.os
 tape : w'.tape = w.tape
 output : w'.output = w.output
 size : w.heap.size ≤ w'.heap.size
 block : ∀ k, k < w.heap.size → k ≠ g → k ≠ hb → w'.heap[k]? = w.heap[k]?
theorem B2.of_below {g hb : Nat} {w w' : World} (h : Below w.heap.size w w') : B2 g hb w w' := ⟨h.os, h.tape, h.output, h.size, fun k hk _ _ => h.block k hk⟩
theorem B2.trans {g hb : Nat} {a b c : World} (h : B2 g hb a b) (k : B2 g hb b c) : B2 g hb a c := ⟨k.os.trans h.os, k.tape.trans h.tape, k.output.trans h.output, Nat.le_trans h.size k.size, fun i hi h1 h2 => (k.block i (Nat.lt_of_lt_of_le hi h.size) h1 h2).trans (h.block i hi h1 h2)⟩
theorem B2.grown {g hb : Nat} {a w w' : World} (h : B2 g hb a w) (hg : w.grownBy w' (some g)) : B2 g hb a w' := h.trans ⟨hg.os, hg.tape, hg.output, hg.size, fun k hk h1 _ => hg.block k hk (fun e => h1 (Option.some.inj e))⟩
theorem B2.set {g hb : Nat} {a w : World} (h : B2 g hb a w) {p : Nat} (hp : p = g ∨ p = hb) (o : Nat) (v : Value) : B2 g hb a (w.setCell ⟨p, o, none⟩ v) := h.trans ⟨rfl, rfl, rfl, by simp, fun k _ h1 h2 => Below.heap_setCell _ _ _ _ (fun e => by rcases hp with h | h <;> (rw [h] at e; first | exact h1 e | exact h2 e))⟩
theorem B2.drew {g hb : Nat} {a w : World} (h : B2 g hb a w) : B2 g hb a w.drew := ⟨h.os, h.tape, h.output, h.size, h.block⟩
structure KpQ (G : Nat → Prop) (n₀ : Nat) (w w' : World) : Prop where
 os : w'.os = w.os
 tape : w'.tape = w.tape
 output : w'.output = w.output
 size : w.heap.size ≤ w'.heap.size
 block : ∀ k, k < n₀ → ¬ G k → w'.heap[k]? = w.heap[k]?
theorem KpQ.refl (G : Nat → Prop) (n₀ : Nat) (w : World) : KpQ G n₀ w w := ⟨rfl, rfl, rfl, Nat.le_refl _, fun _ _ _ => rfl⟩
theorem KpQ.trans {G : Nat → Prop} {n₀ : Nat} {a b c : World} (h : KpQ G n₀ a b) (k : KpQ G n₀ b c) : KpQ G n₀ a c :=
 ⟨k.os.trans h.os, k.tape.trans h.tape, k.output.trans h.output, Nat.le_trans h.size k.size, fun i hi hp => (k.block i hi hp).trans (h.block i hi hp)⟩
theorem KpQ.of_below {G : Nat → Prop} {n₀ : Nat} {w w' : World} (h : Below w.heap.size w w') (hn : n₀ ≤ w.heap.size) : KpQ G n₀ w w' :=
 ⟨h.os, h.tape, h.output, h.size, fun k hk _ => h.block k (Nat.lt_of_lt_of_le hk hn)⟩
theorem KpQ.grown {G : Nat → Prop} {n₀ : Nat} {a w w' : World} {row : Option Nat} (h : KpQ G n₀ a w) (hg : w.grownBy w' row) (hn : n₀ ≤ w.heap.size) (hr : ∀ r, row = some r → n₀ ≤ r ∨ G r) : KpQ G n₀ a w' :=
 h.trans ⟨hg.os, hg.tape, hg.output, hg.size, fun k hk hG => hg.block k (by omega) (fun e => by rcases hr k e.symm with h | h; omega; exact hG h)⟩
theorem KpQ.putObj {G : Nat → Prop} {n₀ : Nat} (W : World) {l : Nat} (o' : Obj) (hl : n₀ ≤ l) : KpQ G n₀ W (W.putObj l o') :=
 ⟨rfl, rfl, rfl, (grownBy_putObj' W l o').size, fun k hk _ => World.putObj_heap_other (by omega)⟩
theorem YieldAt.wide {P : Program} {l m m' : Nat} {args : Array Value} {W : World} {R : Ending → World → Prop} (h : YieldAt Fence.wide m P l args W R) (l' : Nat) : YieldAt (Fence.wide.inRound l') m' P l args W R := by
 obtain ⟨fn, tmps, assign, body, hy, hR⟩ := h
 exact ⟨fn, tmps, assign, body, hy, trivial, fun c cs _ => hR.2 c cs (room_wide _)⟩
theorem wpIn_wideRound {P : Program} {l m n : Nat} {c : Code} {Q : Exit → Act → World → Prop} {a : Act} {w : World} (h : c.wpIn (Fence.wide.inRound l) m P Q a w) : c.wpIn (Fence.wide.inRound l) n P Q a w :=
 fun b k cs h1 h2 _ => h b k cs h1 h2 (fun _ h => by cases h)
theorem YieldAt.anyQ {P : Program} {l m m' : Nat} {args : Array Value} {W : World} {R : Ending → World → Prop} (h : YieldAt Fence.wide m P l args W R) : YieldAt Fence.wide m' P l args W R := by
 obtain ⟨fn, tmps, assign, body, hy, hR⟩ := h
 exact ⟨fn, tmps, assign, body, hy, trivial, fun c cs _ => hR.2 c cs (room_wide _)⟩
structure KpS (G : Nat → Prop) (w w' : World) : Prop where
 os : w'.os = w.os
 tape : w'.tape = w.tape
 output : w'.output = w.output
 size : w.heap.size ≤ w'.heap.size
 block : ∀ k, k < w.heap.size → ¬ G k → w'.heap[k]? = w.heap[k]?
theorem KpS.refl (G : Nat → Prop) (w : World) : KpS G w w := ⟨rfl, rfl, rfl, Nat.le_refl _, fun _ _ _ => rfl⟩
theorem KpS.trans {G : Nat → Prop} {a b c : World} (h : KpS G a b) (k : KpS G b c) : KpS G a c :=
 ⟨k.os.trans h.os, k.tape.trans h.tape, k.output.trans h.output, Nat.le_trans h.size k.size, fun i hi hp => (k.block i (Nat.lt_of_lt_of_le hi h.size) hp).trans (h.block i hi hp)⟩
theorem KpS.of_below {G : Nat → Prop} {w w' : World} (h : Below w.heap.size w w') : KpS G w w' := ⟨h.os, h.tape, h.output, h.size, fun k hk _ => h.block k hk⟩
theorem KpS.grown {G : Nat → Prop} {a w w' : World} {row : Option Nat} (h : KpS G a w) (hg : w.grownBy w' row) (hr : ∀ r, row = some r → G r) : KpS G a w' :=
 h.trans ⟨hg.os, hg.tape, hg.output, hg.size, fun k hk hG => hg.block k hk (fun e => hG (hr k e.symm))⟩
theorem KpS.blk {G : Nat → Prop} {w w' : World} (h : KpS G w w') {g : Nat} {cs : Array Value} {t : TypeId} (hb : Blk g cs t w) (hG : ¬ G g) : Blk g cs t w' := (h.block g hb.lt hG).trans hb
theorem KpS.cell {G : Nat → Prop} {w w' : World} (h : KpS G w w') {a : Addr} (ha : a.block < w.heap.size) (hG : ¬ G a.block) : w'.cell? a = w.cell? a := World.cell?_of_block (w := w) (h.block a.block ha hG)
def SeqS {α : Type} (P : Program) (gf : Nat) (lb : Array Value) (encs : α → Array Value) (G : Nat → Prop) (g hb : Nat) (N : Nat) (S : List α → Prop) (w : World) : Prop :=
 ∀ (l : Nat) (J : List α → World → Prop) (W : World), Below w.heap.size w W → (∀ pre W1 W2, J pre W1 → B2 g hb W1 W2 → J pre W2) →
  (∀ pre x W1, J pre W1 → pre.length < N → YieldAt Fence.wide 0 P l (encs x) W1 fun e W' => e = .returned (.bool true) ∧ J (pre ++ [x]) W' ∧ KpS G W1 W') →
  J [] W →
  Calls P gf (#[.func (.yield l) #[] #[]] ++ lb) W fun e W' => (∃ v, e = .returned v) ∧ ∃ xs, S xs ∧ J xs W'
def goOnS {α : Type} (B : Nat) (G : Nat → Prop) (I : List α → World → Prop) (xs : List α) (W : World) : Exit → Act → World → Prop
 | .normal, _, W' => KeepsFrom B W W' ∧ KpS G W W' ∧ I xs W'
 | _, _, _ => False
set_option maxHeartbeats 2000000 in
theorem range_allS {α : Type} {P : Program} {n : Nat} {g : Operand} {ps : Array Tmp} {assign body : Code} {Q : Exit → Act → World → Prop} {a : Act} {w : World}
  (G : Nat → Prop) (gw hw : Nat) {gf : Nat} {lb : Array Value} (hg : a.eval g = .func (.func gf) #[] lb) (eg : ∀ args w, (callFunc gf args).run P w = .ok (.enter gf args) w)
  {encs : α → Array Value} {S : List α → Prop} {N : Nat} (hseq : SeqS P gf lb encs G gw hw N S w) (hgw : gw < w.heap.size) (hhw : hw < w.heap.size) (hps : ∀ x, (encs x).size = ps.size)
  (I : List α → World → Prop) (hI : OwnFrom w.heap.size I) (hIB : ∀ s A B, I s A → B2 gw hw A B → I s B) (h0 : I [] w) (Ax : α → Act → World → Prop) (hAx : ∀ x a', OwnFrom w.heap.size (fun (_ : Unit) W => Ax x a' W))
  (hassign : ∀ (l : Nat) (pre : List α) (x : α) (W : World) (K' : Act → World → Prop), I pre W → (∀ a' W', KeepsFrom w.heap.size W W' → KpS G W W' → I pre W' → Ax x a' W' → K' a' W') →
   assign.wpIn (Fence.wide.inRound l) 5 P (Exit.then K' (fun _ _ _ => False)) { tmps := (ps.zip (encs x)).foldl (fun t (p, v) => t.setIfInBounds p v) a.tmps, defers := [] } W)
  (hbody : ∀ (l : Nat) (pre : List α) (x : α) (a' : Act) (W : World), I pre W → Ax x a' W → pre.length < N → body.wpIn (Fence.wide.inRound l) 5 P (goOnS w.heap.size G I (pre ++ [x]) W) a' W)
  (hdone : ∀ (D : Nat) (xs : List α) (W : World), w.heap.size ≤ D → S xs → I xs W → W.heap[D]? = some (.deferred (some [])) → Q .normal { a with defers := { target := .collected D, args := #[] } :: a.defers } W) :
  (Code.rangeFunc g ps assign body).wpIn Fence.wide n P Q a w := by
 refine wpIn_rangeFunc fun fn hfn => ?_
 rw [show Fence.wide.round = none from rfl]
 obtain ⟨rec, hrec⟩ : ∃ rec : LoopState → Option Code → Loop, rec = fun st pe => { state := st, pending := pe, fn, tmps := a.tmps, params := ps, assign, body, defers := w.heap.size } := ⟨_, rfl⟩
 obtain ⟨L, hL⟩ : ∃ L, L = w.heap.size + 1 := ⟨_, rfl⟩
 obtain ⟨W1, hW1⟩ : ∃ W1, W1 = (w.alloc (.deferred (some []))).alloc (.loop (rec .ready none)) := ⟨_, rfl⟩
 have e1 : W1.heap[L]? = some (.loop (rec .ready none)) := by
  have := World.alloc_heap_new (w.alloc (.deferred (some []))) (.loop (rec .ready none))
  rw [hW1, hL]
  rwa [World.size_alloc] at this
 have e2 : W1.heap[w.heap.size]? = some (.deferred (some [])) := by
  rw [hW1]
  exact (Below.heap_alloc _ _ _ (by simp)).trans (World.alloc_heap_new w _)
 have e3 : W1.heap.size = w.heap.size + 2 := by rw [hW1]; simp
 have hb : Below w.heap.size w W1 := by rw [hW1]; exact ((Below.refl _ w).alloc nL _).alloc (by simp) _
 have hI1 : I [] W1 := by rw [hW1]; exact hI.alloc _ (hI.alloc _ h0)
 have put : ∀ {s : List α} {W : World} {r : Loop} (o' : Obj), I s W → W.heap[L]? = some (.loop r) → I s (W.putObj L o') := fun o' hi hl => hI.putObj o' hi (by omega) hl rfl
 refine ⟨L, [{ target := .collected w.heap.size, args := #[] }], W1, { target := .fn (.func gf) lb, args := #[.func (.yield L) #[] #[]] }, W1, gf, #[.func (.yield L) #[] #[]] ++ lb, W1, ?_, ?_, fun _ _ => trivial, ?_, (fun h => by cases h), ?_⟩
 ·rw [hW1, hL, hrec]; exact run_enterLoop_outer _ _ _ _ _
 ·simp only [resolve, hg]
  simp [go_sem]
 ·simp [invoke, go_sem, eg]
 refine callsIn_wide.2 ((hseq L (fun pre W => I pre W ∧ W.heap[L]? = some (.loop (rec .ready none)) ∧ W.heap[w.heap.size]? = some (.deferred (some []))) W1 hb ?_ ?_ ⟨hI1, e1, e2⟩).mono ?_)
 ·rintro pre A B ⟨h1, h2, h3⟩ h4
  exact ⟨hIB _ _ _ h1 h4, (h4.block L (Array.getElem?_eq_some_iff.1 h2).1 (by omega) (by omega)).trans h2, (h4.block _ (Array.getElem?_eq_some_iff.1 h3).1 (by omega) (by omega)).trans h3⟩
 ·rintro pre x W ⟨hi, hl, hk⟩ hlen
  have hy := run_yield (P := P) (args := encs x) hl (by rw [hrec]; exact hps x)
  rw [hrec] at hy
  refine ⟨fn, _, assign, body, hy, roundIn_of_wpIn hfn (wpIn_wideRound (m := 5) (hassign L pre x W _ hi ?_))⟩
  clear hy
  intro a' Wa ka kpa hia hax
  have hla := ka.same _ _ (by omega) hl rfl
  have hka := ka.same _ _ nL hk rfl
  have hlt : L < Wa.heap.size := (Array.getElem?_eq_some_iff.1 hla).1
  refine ⟨_, run_beginRound hla (by rw [hrec]), ?_⟩
  obtain ⟨Wb, hWb⟩ : ∃ Wb, Wb = Wa.putObj L (.loop { rec .ready none with state := .busy }) := ⟨_, rfl⟩
  have hlb : Wb.heap[L]? = some (.loop { rec .ready none with state := .busy }) := by rw [hWb]; exact World.putObj_heap_same hlt
  have hkb : Wb.heap[w.heap.size]? = some (.deferred (some [])) := by rw [hWb]; exact (World.putObj_heap_other (by omega)).trans hka
  have hlW := iH hl
  have hWbo : Wb.os = Wa.os ∧ Wb.tape = Wa.tape ∧ Wb.output = Wa.output ∧ Wa.heap.size ≤ Wb.heap.size ∧ ∀ k, k ≠ L → Wb.heap[k]? = Wa.heap[k]? := by rw [hWb]; exact ⟨rfl, rfl, rfl, (grownBy_putObj' _ _ _).size, fun k e => World.putObj_heap_other e⟩
  have hib : I pre Wb := by rw [hWb]; exact put _ hia hla
  have haxb : Ax x a' Wb := by rw [hWb]; exact (hAx x a').putObj (s := ()) _ hax (by omega) hla rfl
  rw [← hWb]
  clear hWb
  refine wpIn_mono (wpIn_wideRound (m := 5) (hbody L pre x a' Wb hib haxb hlen)) ?_
  rintro e a3 W3 hp
  cases e with
  | normal =>
   obtain ⟨k3, kp3, hi3⟩ := hp
   have hl3 := k3.same _ _ (by omega) hlb rfl
   have hk3 := k3.same _ _ nL hkb rfl
   have hr := run_endRound (P := P) none hl3
   refine ⟨_, _, hr, rfl, ⟨put _ hi3 hl3, ?_, (World.putObj_heap_other (by omega)).trans hk3⟩, ?_⟩
   ·rw [World.putObj_heap_same (Array.getElem?_eq_some_iff.1 hl3).1, hrec]
    rfl
   ·refine ⟨kp3.os.trans (hWbo.1.trans kpa.os), kp3.tape.trans (hWbo.2.1.trans kpa.tape), kp3.output.trans (hWbo.2.2.1.trans kpa.output), Nat.le_trans kpa.size (Nat.le_trans hWbo.2.2.2.1 (Nat.le_trans kp3.size (grownBy_putObj' _ _ _).size)), fun k hk hG => ?_⟩
    by_cases e : k = L
    ·subst e
     rw [World.putObj_heap_same (Array.getElem?_eq_some_iff.1 hl3).1, hlW.out, hrec]
     rfl
    ·refine (World.putObj_heap_other e).trans ((kp3.block k ?_ hG).trans ((hWbo.2.2.2.2 k e).trans (kpa.block k hk hG)))
     exact Nat.lt_of_lt_of_le hk (Nat.le_trans kpa.size hWbo.2.2.2.1)
  | ret => exact hp.elim
  | exit id => exact hp.elim
  | goto t => exact hp.elim
  | panic ch => exact hp.elim
  | outgrown => exact hp.elim
 ·rintro e W2 ⟨⟨v, rfl⟩, xs, hS, hi, hl, hk⟩
  have hr := run_endLoop (P := P) hl (by rw [hrec]; simp)
  exact ⟨none, _, by rw [hrec] at hr; exact hr, hdone _ xs _ nL hS (put _ hi hl) ((World.putObj_heap_other (by omega)).trans hk)⟩
theorem wpListIn_load_mid {F : Fence} {nF : Nat} {P : Program} {ops : Array Oper} {rest : List Oper} {op : Oper} {a : Act} {w : World} {Q : Exit → Act → World → Prop} (hw : Region.wanted op (yielded ops a.tmps) = true) (ty : TypeId) (x : Operand) (ho : op.op = .load ty x)
  (b o : Nat) (hx : a.eval x = .pointer (some ⟨b, o, none⟩)) (cs : List Value) (d : TypeDesc) (hc : w.rangeAt b o cs)
  (hu : P.underlying ty = some d) (hd : d.isRow = true) (hi : (P.info? ty).map (·.size) = some cs.length)
  (h : wpListIn F nF P ops Q rest (a.put op.dst (.agg cs.toArray)) w) : wpListIn F nF P ops Q (op :: rest) a w := by
 refine wpListIn_step fun K' hK' => ?_
 rw [if_pos hw]
 unfold Oper.wpIn
 refine ⟨by simp [Oper.about, ho], ?_⟩
 rw [Oper.semAt_plain F _ _ (by rw [ho]; intro c hc'; cases hc')]
 simp only [execOp, ho, hx, Instr.loadAt, Instr.sureAddr, Sem.run_bind, Sem.run_pure, Result.andThen_ok, run_loadVar_mid w b o ty cs d hc hu hd hi]
 exact hK' _ _ h
theorem wpListIn_store_toC {F : Fence} {nF : Nat} {P : Program} {ops : Array Oper} {rest : List Oper} {op : Oper} {a : Act} {w : World} {Q : Exit → Act → World → Prop} (hgd : op.guard = none) (ty : TypeId) (x y : Operand) (ho : op.op = .store ty x y)
  (b o : Nat) (cells : Array Value) (hx : a.eval x = .pointer (some ⟨b, o, none⟩)) (hy : a.eval y = .agg cells)
  (ht : w.there b o cells.size) (hi : (P.info? ty).map (·.size) = some cells.size) (h1 : cells.all (·.oneCell') = true) (w' : World) (hw : w' = w.setCells b o cells.toList)
  (h : wpListIn F nF P ops Q rest (a.put op.dst undef) w') : wpListIn F nF P ops Q (op :: rest) a w := by
 subst hw
 refine wpListIn_plain hgd fun K' hK' => ?_
 unfold Oper.wpIn
 refine ⟨by simp [Oper.about, ho], ?_⟩
 rw [Oper.semAt_plain F _ _ (by rw [ho]; intro c hc'; cases hc')]
 simp only [execOp, ho, hx, hy, Instr.storeAt, Instr.sureAddr, Sem.run_bind, Sem.run_pure, Result.andThen_ok, run_storeVar_mid w b o ty cells ht hi h1]
 exact hK' _ _ h
theorem isz_Offer : (Tryz.prog.info? 94).map (·.size) = some 5 := by kernel_rfl
set_option maxHeartbeats 2000000 in
set_option maxRecDepth 100000 in
theorem betterF_any (k m a0 a1 a2 a3 b0 b1 b2 b3 : Int) (pk : Bool) (p Bf : Nat) (w : World) (hbf : w.cell? ⟨Bf, 0, none⟩ = some (.pointer (some ⟨p, 0, none⟩))) (hpk : w.cell? ⟨p, 0, none⟩ = some (.bool pk)) :
  Calls Tryz.prog 43 #[.agg #[.int .i64 k, .int .i64 a0, .int .i64 a1, .int .i64 a2, .int .i64 a3], .agg #[.int .i64 m, .int .i64 b0, .int .i64 b1, .int .i64 b2, .int .i64 b3], .pointer (some ⟨Bf, 0, none⟩)] w fun e w' => e = .returned (.bool (betterB a0 a1 a2 a3 b0 b1 b2 b3 pk)) ∧ Below w.heap.size w w' := by
 have hfl := block_lt_of_cell hbf
 have hpl := block_lt_of_cell hpk
 have HBF := iH hbf
 have HPK := iH hpk
 clear hbf hpk
 have HA : Hid (Blk w.heap.size #[.int .i64 k, .int .i64 a0, .int .i64 a1, .int .i64 a2, .int .i64 a3] 94 ((w.alloc (Obj.cells #[.int .i64 k, .int .i64 a0, .int .i64 a1, .int .i64 a2, .int .i64 a3] 94)).alloc (Obj.cells #[.int .i64 m, .int .i64 b0, .int .i64 b1, .int .i64 b2, .int .i64 b3] 94))) := (Blk.alloc w _ _).below ((Below.refl _ _).alloc nL _) (Blk.alloc w _ _).lt
 have HC : Hid (Blk (w.heap.size + 1) #[.int .i64 m, .int .i64 b0, .int .i64 b1, .int .i64 b2, .int .i64 b3] 94 ((w.alloc (Obj.cells #[.int .i64 k, .int .i64 a0, .int .i64 a1, .int .i64 a2, .int .i64 a3] 94)).alloc (Obj.cells #[.int .i64 m, .int .i64 b0, .int .i64 b1, .int .i64 b2, .int .i64 b3] 94))) := by
  have h := Blk.alloc (w.alloc (Obj.cells #[.int .i64 k, .int .i64 a0, .int .i64 a1, .int .i64 a2, .int .i64 a3] 94)) #[.int .i64 m, .int .i64 b0, .int .i64 b1, .int .i64 b2, .int .i64 b3] 94
  show Blk _ _ _ _
  simpa using h
 have hB1 : Below w.heap.size w ((w.alloc (Obj.cells #[.int .i64 k, .int .i64 a0, .int .i64 a1, .int .i64 a2, .int .i64 a3] 94)).alloc (Obj.cells #[.int .i64 m, .int .i64 b0, .int .i64 b1, .int .i64 b2, .int .i64 b3] 94)) := by go_grown
 go_enter Tryz.func43, Tryz.ntmps43
 go_upto_region 1 with fail
 generalize (w.alloc (Obj.cells #[.int .i64 k, .int .i64 a0, .int .i64 a1, .int .i64 a2, .int .i64 a3] 94)).alloc (Obj.cells #[.int .i64 m, .int .i64 b0, .int .i64 b1, .int .i64 b2, .int .i64 b3] 94) = w1 at *
 refine wp_region_held_drew (S := fun wy => Blk w.heap.size #[.int .i64 k, .int .i64 a0, .int .i64 a1, .int .i64 a2, .int .i64 a3] 94 wy ∧ Blk (w.heap.size + 1) #[.int .i64 m, .int .i64 b0, .int .i64 b1, .int .i64 b2, .int .i64 b3] 94 wy ∧ Below w.heap.size w wy) (by kernel_rfl) ⟨HA.out.drew, HC.out.drew, hB1.drew⟩ (fun hS => ?_)
 clear HA HC hB1
 generalize w1.drew = wa at *
 refine tz 0 6 (.pointer (some ⟨w.heap.size, 1, none⟩)) rfl hS ?_
 simp only [pA,pB,pC,pD]
 refine tk 1 ⟨some 7, _, _, _, _, none⟩ (.agg #[.int .i64 a0, .int .i64 a1, .int .i64 a2, .int .i64 a3]) rfl (yieldsIf_load_mid (by rfl) _ _ rfl w.heap.size (1) rfl [.int .i64 a0, .int .i64 a1, .int .i64 a2, .int .i64 a3] _ (fun _ h => (fun j v hj => h.1.cell (o := 1 + j) (by have hj4 : j < 4 := lt_of_some hj; have hc : j = 0 ∨ j = 1 ∨ j = 2 ∨ j = 3 := (by omega); rcases hc with rfl | rfl | rfl | rfl <;> (cases hj; rfl)))) Tryz.underlying84 rfl isz_Score) hS ?_
 simp only [pA,pB,pC,pD]
 refine tz 2 8 (.pointer (some ⟨w.heap.size + 1, 1, none⟩)) rfl hS ?_
 simp only [pA,pB,pC,pD]
 refine tk 3 ⟨some 9, _, _, _, _, none⟩ (.agg #[.int .i64 b0, .int .i64 b1, .int .i64 b2, .int .i64 b3]) rfl (yieldsIf_load_mid (by rfl) _ _ rfl (w.heap.size + 1) (1) rfl [.int .i64 b0, .int .i64 b1, .int .i64 b2, .int .i64 b3] _ (fun _ h => (fun j v hj => h.2.1.cell (o := 1 + j) (by have hj4 : j < 4 := lt_of_some hj; have hc : j = 0 ∨ j = 1 ∨ j = 2 ∨ j = 3 := (by omega); rcases hc with rfl | rfl | rfl | rfl <;> (cases hj; rfl)))) Tryz.underlying84 rfl isz_Score) hS ?_
 simp only [pA,pB,pC,pD]
 refine tl 4 10 (.pointer (some ⟨p, 0, none⟩)) ⟨Bf, 0, none⟩ rfl (fun wy hy => (hy.2.2.cell (p := ⟨Bf, 0, none⟩) hfl).trans HBF.out) hS ?_
 simp only [pA,pB,pC,pD]
 refine tz 5 11 (.pointer (some ⟨p, 0, none⟩)) rfl hS ?_
 simp only [pA,pB,pC,pD]
 refine tz 6 12 (.pointer (some ⟨p, 0, none⟩)) rfl hS ?_
 simp only [pA,pB,pC,pD]
 refine tz 7 13 (.pointer (some ⟨p, 0, none⟩)) rfl hS ?_
 simp only [pA,pB,pC,pD]
 refine tl 8 14 (.bool pk) ⟨p, 0, none⟩ rfl (fun wy hy => (hy.2.2.cell (p := ⟨p, 0, none⟩) hpl).trans HPK.out) hS ?_
 simp only [pA,pB,pC,pD]
 refine rd1 9 ⟨some 15, _, _, _, _, none⟩ rfl (fun K hK => ?_)
 go_simp
 refine (implBetter_any a0 a1 a2 a3 b0 b1 b2 b3 pk _).mono ?_
 rintro e w5 ⟨rfl, hb5⟩
 refine hK.out _ _ ⟨hS.1.below hb5 hS.1.lt, hS.2.1.below hb5 hS.2.1.lt, hS.2.2.trans (hb5.mono hS.2.2.size)⟩ (fun hS => ?_)
 clear hK K
 clear hb5
 refine tz 10 5 (.bool (betterB a0 a1 a2 a3 b0 b1 b2 b3 pk)) rfl hS ?_
 simp only [pA,pB,pC,pD]
 have hB := hS.2.2
 refine td ?_
 clear hS
 go_wp2_with fail
 go_ret
 exact ⟨rfl, hB⟩
end Go.Proofs.YtebfdgfhadpieaaGreat
