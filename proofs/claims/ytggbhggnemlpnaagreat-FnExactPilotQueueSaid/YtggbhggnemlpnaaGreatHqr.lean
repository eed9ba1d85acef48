/-
  The law of a walk over a heap that is taken apart by it; the heap's walk by the program. Made by mkhqr.py.
-/
import Derived.Test.YtggbhggnemlpnaaGreatHqe
import Derived.RangeFuncNested
import Derived.RangeFuncBound
import Derived.RangeFuncCalls
import Derived.RangeFuncLeaves
namespace Go.Proofs.YtggbhggnemlpnaaGreat
open Go.RowKit

/-- below n₀ all blocks but some are as they were -/
structure KpQ (G : Nat → Prop) (n₀ : Nat) (w w' : World) : Prop where
  os : w'.os = w.os
  tape : w'.tape = w.tape
  output : w'.output = w.output
  size : w.heap.size ≤ w'.heap.size
  block : ∀ k, k < n₀ → ¬ G k → w'.heap[k]? = w.heap[k]?

theorem KpQ.refl (G : Nat → Prop) (n₀ : Nat) (w : World) : KpQ G n₀ w w := ⟨rfl, rfl, rfl, Nat.le_refl _, fun _ _ _ => rfl⟩
theorem KpQ.trans {G : Nat → Prop} {n₀ : Nat} {a b c : World} (h : KpQ G n₀ a b) (k : KpQ G n₀ b c) : KpQ G n₀ a c :=
  ⟨k.os.trans h.os, k.tape.trans h.tape, k.output.trans h.output, Nat.le_trans h.size k.size, fun i hi hp => (k.block i hi hp).trans (h.block i hi hp)⟩
theorem KpQ.of_below {G : Nat → Prop} {n₀ : Nat} {w w' : World} (h : Below w.heap.size w w') (hn : n₀ ≤ w.heap.size) : KpQ G n₀ w w' :=
  ⟨h.os, h.tape, h.output, h.size, fun k hk _ => h.block k (Nat.lt_of_lt_of_le hk hn)⟩
theorem KpQ.grown {G : Nat → Prop} {n₀ : Nat} {a w w' : World} {row : Option Nat} (h : KpQ G n₀ a w) (hg : w.grownBy w' row) (hn : n₀ ≤ w.heap.size) (hr : ∀ r, row = some r → n₀ ≤ r ∨ G r) : KpQ G n₀ a w' :=
  h.trans ⟨hg.os, hg.tape, hg.output, hg.size, fun k hk hG => hg.block k (by omega) (fun e => by rcases hr k e.symm with h | h; omega; exact hG h)⟩
theorem KpQ.putObj {G : Nat → Prop} {n₀ : Nat} (W : World) {l : Nat} (o' : Obj) (hl : n₀ ≤ l) : KpQ G n₀ W (W.putObj l o') :=
  ⟨rfl, rfl, rfl, (grownBy_putObj' W l o').size, fun k hk _ => World.putObj_heap_other (by omega)⟩

/-- a function that hands all of some things, one after the other, and writes into two blocks -/
def SeqQ {α : Type} (P : Program) (gf : Nat) (lb : Array Value) (encs : α → Array Value) (G : Nat → Prop) (n₀ : Nat) (g hb : Nat) (N : Nat) (S : List α → Prop) (w : World) : Prop :=
  ∀ (l : Nat) (J : List α → World → Prop) (W : World), Below w.heap.size w W → n₀ + 2 ≤ W.heap.size → (∀ pre W1 W2, J pre W1 → B2 g hb W1 W2 → J pre W2) →
    (∀ pre x W1, J pre W1 → pre.length < N → YieldAt Fence.wide 0 P l (encs x) W1 fun e W' => e = .returned (.bool true) ∧ J (pre ++ [x]) W' ∧ KpQ G n₀ W1 W') →
    J [] W →
    Calls P gf (#[.func (.yield l) #[] #[]] ++ lb) W fun e W' => (∃ v, e = .returned v) ∧ ∃ xs, S xs ∧ J xs W'

theorem YieldAt.wide {P : Program} {l m m' : Nat} {args : Array Value} {W : World} {R : Ending → World → Prop} (h : YieldAt Fence.wide m P l args W R) (l' : Nat) : YieldAt (Fence.wide.inRound l') m' P l args W R := by
  obtain ⟨fn, tmps, assign, body, hy, hR⟩ := h
  exact ⟨fn, tmps, assign, body, hy, trivial, fun c cs _ => hR.2 c cs (room_wide _)⟩

theorem wpIn_wideRound {P : Program} {l m n : Nat} {c : Code} {Q : Exit → Act → World → Prop} {a : Act} {w : World} (h : c.wpIn (Fence.wide.inRound l) m P Q a w) : c.wpIn (Fence.wide.inRound l) n P Q a w :=
  fun b k cs h1 h2 _ => h b k cs h1 h2 (fun _ h => by cases h)


theorem YieldAt.anyQ {P : Program} {l m m' : Nat} {args : Array Value} {W : World} {R : Ending → World → Prop} (h : YieldAt Fence.wide m P l args W R) : YieldAt Fence.wide m' P l args W R := by
  obtain ⟨fn, tmps, assign, body, hy, hR⟩ := h
  exact ⟨fn, tmps, assign, body, hy, trivial, fun c cs _ => hR.2 c cs (room_wide _)⟩

/-- the end of a round that goes on -/
def goOnQ {α : Type} (B : Nat) (G : Nat → Prop) (I : List α → World → Prop) (xs : List α) (W : World) : Exit → Act → World → Prop
  | .normal, _, W' => KeepsFrom B W W' ∧ KpQ G B W W' ∧ I xs W'
  | _, _, _ => False

set_option maxHeartbeats 2000000 in
theorem range_allQ {α : Type} {P : Program} {n : Nat} {g : Operand} {ps : Array Tmp} {assign body : Code} {Q : Exit → Act → World → Prop} {a : Act} {w : World}
    (G : Nat → Prop) (gw hw : Nat) {gf : Nat} {lb : Array Value} (hg : a.eval g = .func (.func gf) #[] lb) (eg : ∀ args w, (callFunc gf args).run P w = .ok (.enter gf args) w)
    {encs : α → Array Value} {S : List α → Prop} {N : Nat} (hseq : SeqQ P gf lb encs G w.heap.size gw hw N S w) (hgw : gw < w.heap.size) (hhw : hw < w.heap.size) (hps : ∀ x, (encs x).size = ps.size)
    (I : List α → World → Prop) (hI : OwnFrom w.heap.size I) (hIB : ∀ s A B, I s A → B2 gw hw A B → I s B) (h0 : I [] w) (Ax : α → Act → World → Prop) (hAx : ∀ x a', OwnFrom w.heap.size (fun (_ : Unit) W => Ax x a' W))
    (hassign : ∀ (l : Nat) (pre : List α) (x : α) (W : World) (K' : Act → World → Prop), I pre W → (∀ a' W', KeepsFrom w.heap.size W W' → KpQ G w.heap.size W W' → I pre W' → Ax x a' W' → K' a' W') →
      assign.wpIn (Fence.wide.inRound l) 5 P (Exit.then K' (fun _ _ _ => False)) { tmps := (ps.zip (encs x)).foldl (fun t (p, v) => t.setIfInBounds p v) a.tmps, defers := [] } W)
    (hbody : ∀ (l : Nat) (pre : List α) (x : α) (a' : Act) (W : World), I pre W → Ax x a' W → pre.length < N → body.wpIn (Fence.wide.inRound l) 5 P (goOnQ w.heap.size G I (pre ++ [x]) W) a' W)
    (hdone : ∀ (D : Nat) (xs : List α) (W : World), w.heap.size ≤ D → S xs → I xs W → W.heap[D]? = some (.deferred (some [])) → Q .normal { a with defers := { target := .collected D, args := #[] } :: a.defers } W) :
    (Code.rangeFunc g ps assign body).wpIn Fence.wide n P Q a w := by
  refine wpIn_rangeFunc fun fn hfn => ?_
  rw [show Fence.wide.round = none from rfl]
  obtain ⟨rec, hrec⟩ : ∃ rec : LoopState → Option Code → Loop, rec = fun st pe => { state := st, pending := pe, fn, tmps := a.tmps, params := ps, assign, body, defers := w.heap.size } := ⟨_, rfl⟩
  obtain ⟨L, hL⟩ : ∃ L, L = w.heap.size + 1 := ⟨_, rfl⟩
  obtain ⟨W1, hW1⟩ : ∃ W1, W1 = (w.alloc (.deferred (some []))).alloc (.loop (rec .ready none)) := ⟨_, rfl⟩
  have e1 : W1.heap[L]? = some (.loop (rec .ready none)) := by
    have := World.alloc_heap_new (w.alloc (.deferred (some []))) (.loop (rec .ready none))
    rw [hW1, hL]
    rwa [World.size_alloc] at this
  have e2 : W1.heap[w.heap.size]? = some (.deferred (some [])) := by
    rw [hW1]
    exact (Below.heap_alloc _ _ _ (by simp)).trans (World.alloc_heap_new w _)
  have e3 : W1.heap.size = w.heap.size + 2 := by rw [hW1]; simp
  have hb : Below w.heap.size w W1 := by rw [hW1]; exact ((Below.refl _ w).alloc (Nat.le_refl _) _).alloc (by simp) _
  have hI1 : I [] W1 := by rw [hW1]; exact hI.alloc _ (hI.alloc _ h0)
  have put : ∀ {s : List α} {W : World} {r : Loop} (o' : Obj), I s W → W.heap[L]? = some (.loop r) → I s (W.putObj L o') := fun o' hi hl => hI.putObj o' hi (by omega) hl rfl
  refine ⟨L, [{ target := .collected w.heap.size, args := #[] }], W1, { target := .fn (.func gf) lb, args := #[.func (.yield L) #[] #[]] }, W1, gf, #[.func (.yield L) #[] #[]] ++ lb, W1, ?_, ?_, fun _ _ => trivial, ?_, (fun h => by cases h), ?_⟩
  · rw [hW1, hL, hrec]; exact run_enterLoop_outer _ _ _ _ _
  · simp only [resolve, hg]
    simp [go_sem]
  · simp [invoke, go_sem, eg]
  refine callsIn_wide.2 ((hseq L (fun pre W => I pre W ∧ W.heap[L]? = some (.loop (rec .ready none)) ∧ W.heap[w.heap.size]? = some (.deferred (some []))) W1 hb (by omega) ?_ ?_ ⟨hI1, e1, e2⟩).mono ?_)
  · rintro pre A B ⟨h1, h2, h3⟩ h4
    exact ⟨hIB _ _ _ h1 h4, (h4.block L (Array.getElem?_eq_some_iff.1 h2).1 (by omega) (by omega)).trans h2, (h4.block _ (Array.getElem?_eq_some_iff.1 h3).1 (by omega) (by omega)).trans h3⟩
  · rintro pre x W ⟨hi, hl, hk⟩ hlen
    have hy := run_yield (P := P) (args := encs x) hl (by rw [hrec]; exact hps x)
    rw [hrec] at hy
    refine ⟨fn, _, assign, body, hy, roundIn_of_wpIn hfn (wpIn_wideRound (m := 5) (hassign L pre x W _ hi ?_))⟩
    clear hy
    intro a' Wa ka kpa hia hax
    have hla := ka.same _ _ (by omega) hl rfl
    have hka := ka.same _ _ (Nat.le_refl _) hk rfl
    have hlt : L < Wa.heap.size := (Array.getElem?_eq_some_iff.1 hla).1
    refine ⟨_, run_beginRound hla (by rw [hrec]), ?_⟩
    obtain ⟨Wb, hWb⟩ : ∃ Wb, Wb = Wa.putObj L (.loop { rec .ready none with state := .busy }) := ⟨_, rfl⟩
    have hlb : Wb.heap[L]? = some (.loop { rec .ready none with state := .busy }) := by rw [hWb]; exact World.putObj_heap_same hlt
    have hkb : Wb.heap[w.heap.size]? = some (.deferred (some [])) := by rw [hWb]; exact (World.putObj_heap_other (by omega)).trans hka
    have kb : KpQ G w.heap.size W Wb := kpa.trans (by rw [hWb]; exact KpQ.putObj _ _ (by omega))
    have hib : I pre Wb := by rw [hWb]; exact put _ hia hla
    have haxb : Ax x a' Wb := by rw [hWb]; exact (hAx x a').putObj (s := ()) _ hax (by omega) hla rfl
    rw [← hWb]
    clear hWb
    refine wpIn_mono (wpIn_wideRound (m := 5) (hbody L pre x a' Wb hib haxb hlen)) ?_
    rintro e a3 W3 hp
    cases e with
    | normal =>
      obtain ⟨k3, kp3, hi3⟩ := hp
      have hl3 := k3.same _ _ (by omega) hlb rfl
      have hk3 := k3.same _ _ (Nat.le_refl _) hkb rfl
      have hr := run_endRound (P := P) none hl3
      refine ⟨_, _, hr, rfl, ⟨put _ hi3 hl3, ?_, (World.putObj_heap_other (by omega)).trans hk3⟩, kb.trans (kp3.trans (KpQ.putObj _ _ (by omega)))⟩
      rw [World.putObj_heap_same (Array.getElem?_eq_some_iff.1 hl3).1, hrec]
      rfl
    | ret => exact hp.elim
    | exit id => exact hp.elim
    | goto t => exact hp.elim
    | panic ch => exact hp.elim
    | outgrown => exact hp.elim
  · rintro e W2 ⟨⟨v, rfl⟩, xs, hS, hi, hl, hk⟩
    have hr := run_endLoop (P := P) hl (by rw [hrec]; simp)
    exact ⟨none, _, by rw [hrec] at hr; exact hr, hdone _ xs _ (Nat.le_refl _) hS (put _ hi hl) ((World.putObj_heap_other (by omega)).trans hk)⟩


theorem HpW.kp {x : Flt} {a3 : Option Addr} {c3 : Nat} {Wb : World} {Bc hb : Nat} {lv : Value} {l : List Nat} {W W' : World} {G : Nat → Prop} {n₀ : Nat} (h : HpW x a3 c3 Wb Bc hb lv l W) (k : KpQ G n₀ W W') (hn : Wb.heap.size ≤ n₀) (hG : ∀ k, G k → Wb.heap.size ≤ k) (k1 : hb < n₀) (k2 : Bc < n₀) (k3 : ¬ G hb) (k4 : ¬ G Bc) (k5 : ∀ g, lv.ownBlock = some g → g < n₀ ∧ ¬ G g) : HpW x a3 c3 Wb Bc hb lv l W' := by
  refine ⟨h.bel.trans ⟨k.os, k.tape, k.output, k.size, fun i hi => k.block i (by omega) (fun hg => by have := hG i hg; omega)⟩, (k.block _ k2 k4).trans h.box, (k.block _ k1 k3).trans h.blk, ?_, h.n1, h.n3, h.b1, h.b2⟩
  rcases h.row.2 with hh | ⟨g, cap, cur, h1, h2, h3, h4, h5, h6, h7⟩
  · exact ⟨h.row.1, .inl hh⟩
  · obtain ⟨q1, q2⟩ := k5 g (by rw [h1]; rfl)
    exact ⟨h.row.1, .inr ⟨g, cap, cur, h1, h2, (k.block g q1 q2).trans h3, h4, h5, h6, h7⟩⟩

set_option maxHeartbeats 4000000 in
set_option maxRecDepth 100000 in
theorem all_any (hb : Nat) (w : World) :
    Calls Tryz.prog 31 #[.pointer (some ⟨hb, 0, none⟩)] w fun e w' => e = .returned (.func (.func 64) #[] #[.pointer (some ⟨w.heap.size, 0, none⟩)]) ∧ w' = w.alloc (Obj.cells #[.pointer (some ⟨hb, 0, none⟩)] 59) := by
  go_enter Tryz.func31, Tryz.ntmps31
  go_wp2_with fail
  go_ret
  exact ⟨rfl, rfl⟩

theorem HpW.form {x : Flt} {a3 : Option Addr} {c3 : Nat} {Wb : World} {Bc hb : Nat} {lv : Value} {l : List Nat} {W : World} (h : HpW x a3 c3 Wb Bc hb lv l W) : ∃ a cap, lv = .slice a l.length cap := by
  rcases h.row.2 with ⟨h1, h2⟩ | ⟨g, cap, cur, h1, _⟩
  · exact ⟨none, 0, by rw [h1, h2]⟩
  · exact ⟨_, cap, h1⟩

/-- how long the list of a heap is -/
def lenH (hb : Nat) (w : World) : Nat := match w.cell? ⟨hb, 0, none⟩ with
  | some (.slice _ n _) => n
  | _ => 0
theorem HpW.len {x : Flt} {a3 : Option Addr} {c3 : Nat} {Wb : World} {Bc hb : Nat} {lv : Value} {l : List Nat} {W : World} (h : HpW x a3 c3 Wb Bc hb lv l W) : lenH hb W = l.length := by
  obtain ⟨a, cap, e⟩ := h.form
  have h0 : W.cell? ⟨hb, 0, none⟩ = some lv := h.blk.cell rfl
  unfold lenH
  rw [h0, e]

def plEnc (n : Nat) (a : Fin n) : Array Value := #[.int .i64 ((a.1 : Nat) : Int)]

set_option maxHeartbeats 8000000 in
set_option maxRecDepth 100000 in
theorem all_seq (x : Flt) (a3 : Option Addr) (c3 : Nat) (Wb : World) (Bc hb Ba : Nat) (cf : Nat → Nat → Int) (og : LtO (ltF cf)) (G : Nat → Prop) (n₀ : Nat) (lv : Value) (l : List Nat) (g : Nat) (w : World) (hc : CmpQ x a3 c3 Wb Bc (List.range x.copies.length) cf) (h : HpW x a3 c3 Wb Bc hb lv l w) (hh : Heap (ltF cf) l) (hS : ∀ b ∈ l, b < x.copies.length) (hl : l.length ≤ 1000000)
    (hg : ∀ g', lv.ownBlock = some g' → g' = g) (hBa : Blk Ba #[.pointer (some ⟨hb, 0, none⟩)] 59 w) (hn : Wb.heap.size ≤ n₀) (hG : ∀ k, G k → Wb.heap.size ≤ k)
    (k1 : hb < n₀) (k2 : Bc < n₀) (k3 : ¬ G hb) (k4 : ¬ G Bc) (k5 : g < n₀) (k6 : ¬ G g) (k7 : Ba < n₀) (k8 : ¬ G Ba) (k9 : Ba ≠ g) (k10 : Ba ≠ hb) :
    SeqQ Tryz.prog 64 #[.pointer (some ⟨Ba, 0, none⟩)] (plEnc x.copies.length) G n₀ g hb l.length (fun xs => (xs.map (·.1)).Perm l ∧ (xs.map (·.1)).Pairwise (fun a b => ltF cf b a = false)) w := by
  intro Y J W hbW hn2 hJ hY h0
  have HC := Hid.intro hc
  have HOG := Hid.intro og
  have HJ := Hid.intro hJ
  have HY := Hid.intro hY
  have HGG := Hid.intro hG
  have HSS := Hid.intro hS
  have HW0 := Hid.intro (HpW.mk (Bc := Bc) (hb := hb) (lv := lv) (l := l) (W := W) (h.bel.trans (hbW.mono h.bel.size)) (h.box.below hbW h.box.lt) (h.blk.below hbW h.blk.lt) (ownsRow_below h.row hbW) h.n1 h.n3 h.b1 h.b2)
  have HB0 := Hid.intro (hBa.below hbW hBa.lt)
  have H0 := Hid.intro h0
  have HHP := Hid.intro hh
  have HLV : Hid (l ≠ [] → ∃ cap, lv = .slice (some ⟨g, 0, none⟩) l.length cap) := by
    intro hne
    obtain ⟨g', cap, cur, h1, _⟩ := h.at_ (by cases l; exact absurd rfl hne; simp)
    have := hg g' (by rw [h1]; rfl)
    subst this
    exact ⟨cap, h1⟩
  have HGV : Hid (∀ g', lv.ownBlock = some g' → g' = g) := hg
  clear hc og hJ hY hG hS h0 h hBa hh hg hbW
  show Calls Tryz.prog 64 #[.func (.yield Y) #[] #[], .pointer (some ⟨Ba, 0, none⟩)] W _
  go_enter Tryz.func64, Tryz.ntmps64
  go_wp2_with fail
  go_loopw [3] (fun _ wr => ∃ (pre : List (Fin x.copies.length)) (lv' : Value) (l' : List Nat), Hid (HpW x a3 c3 Wb Bc hb lv' l' wr) ∧ Hid (¬ l' = [] → ∃ cap, lv' = .slice (some ⟨g, 0, none⟩) l'.length cap) ∧ Hid (∀ g', lv'.ownBlock = some g' → g' = g) ∧ Hid (Heap (ltF cf) l') ∧ Hid ((pre.map (·.1) ++ l').Perm l) ∧ Hid ((pre.map (·.1)).Pairwise (fun a b => ltF cf b a = false)) ∧ Hid (∀ a ∈ pre, ∀ b ∈ l', ltF cf b a.1 = false) ∧ Hid (J pre wr) ∧ Hid (Blk Ba #[.pointer (some ⟨hb, 0, none⟩)] 59 wr)) (fun _ wr => lenH hb wr)
  case atStart => exact ⟨[], lv, l, HW0, HLV, HGV, HHP, List.Perm.refl _, List.Pairwise.nil, (fun a ha => by cases ha), H0, HB0⟩
  case round =>
    clear HW0 HLV HGV HHP H0 HB0
    obtain ⟨pre, lv', l', HW, HL, HG, HH, HP, HS, HA, HJJ, HB⟩ := hrel
    have hb1 : wr.cell? ⟨Ba, 0, none⟩ = some (.pointer (some ⟨hb, 0, none⟩)) := HB.out.cell rfl
    by_cases hne : l' = []
    case pos =>
      obtain ⟨a, cap, rfl⟩ := HW.out.form
      have HE : Hid (l' = []) := hne
      have hb2 : wr.cell? ⟨hb, 0, none⟩ = some (.slice a 0 cap) := by have h9 := HW.out.blk.cell (o := 0) rfl; rw [hne] at h9; exact h9
      clear hne
      go_wp2_with fail
      first | go_end0 | ((try simp only [Exit.inBlock, Exit.then]); refine bodyPost_ret (results_none rfl _ _ _) rfl ?_)
      refine ⟨⟨_, rfl⟩, pre, ⟨?_, HS.out⟩, HJJ.out⟩
      have h9 := HP.out
      rw [HE.out, List.append_nil] at h9
      exact h9
    obtain ⟨cap, rfl⟩ := HL.out hne
    have hpos : 0 < l'.length := by cases l'; exact absurd rfl hne; simp
    have hb2 : wr.cell? ⟨hb, 0, none⟩ = some (.slice (some ⟨g, 0, none⟩) l'.length cap) := HW.out.blk.cell rfl
    have hlen := HP.out.length_eq
    rw [List.length_append, List.length_map] at hlen
    have hil : (0 : Int) < ((l'.length : Nat) : Int) := by omega
    have HLEN := Hid.intro HW.out.len
    clear hne HL
    refine (wpIn_wide (n := 5)).1 ?_
    gi_wp2_with fail
    refine ⟨trivial, (callsIn_wide.2 (take_anyQ x a3 c3 Wb Bc hb (List.range x.copies.length) cf HOG.out g l'.length cap l' _ HC.out HW.out rfl (fun b hb9 => List.mem_range.2 (HSS.out b (HP.out.subset (List.mem_append_right _ hb9)))) HH.out hpos (by omega))).mono ?_⟩
    rintro e w5 ⟨l5, rfl, hw5, hl5, hh5, hp5, hB5⟩
    obtain ⟨y, hy5⟩ : ∃ y : Fin x.copies.length, y.1 = hAt l' 0 := ⟨⟨hAt l' 0, HSS.out _ (HP.out.subset (List.mem_append_right _ (hAt_mem hpos)))⟩, rfl⟩
    have HYE := Hid.intro hy5
    have HJ5 := Hid.intro (HJ.out _ _ _ HJJ.out hB5)
    have HBA5 : Hid (Blk Ba #[.pointer (some ⟨hb, 0, none⟩)] 59 w5) := (hB5.block _ HB.out.lt k9 k10).trans HB.out
    have hcp := hCut_perm hpos
    have HPP : Hid (((pre ++ [y]).map (·.1) ++ l5).Perm l) := by
      show List.Perm _ _
      rw [List.map_append, List.append_assoc]
      refine (List.Perm.append_left _ ?_).trans HP.out
      show (y.1 :: l5).Perm l'
      rw [hy5]
      exact (hp5.cons _).trans hcp
    have hsub : ∀ b ∈ l5, b ∈ l' := fun b hb9 => hcp.subset (List.mem_cons_of_mem _ (hp5.subset hb9))
    have htop : ∀ b ∈ l', ltF cf b (hAt l' 0) = false := fun b hb9 => by
      obtain ⟨i, hi, he⟩ := List.mem_iff_getElem.1 hb9
      have := HH.out.top HOG.out i hi
      rw [hAt_some (List.getElem?_eq_getElem hi), he] at this
      exact this
    have HSP : Hid (((pre ++ [y]).map (·.1)).Pairwise (fun a b => ltF cf b a = false)) := by
      show List.Pairwise _ _
      rw [List.map_append, List.pairwise_append]
      refine ⟨HS.out, List.pairwise_singleton _ _, fun a ha b hb9 => ?_⟩
      rw [List.map_singleton, List.mem_singleton] at hb9
      rw [hb9, hy5]
      obtain ⟨a', ha', rfl⟩ := List.mem_map.1 ha
      exact HA.out a' ha' _ (hAt_mem hpos)
    have HAP : Hid (∀ a ∈ pre ++ [y], ∀ b ∈ l5, ltF cf b a.1 = false) := by
      intro a ha b hb9
      rcases List.mem_append.1 ha with h | h
      · exact HA.out a h b (hsub b hb9)
      · rw [List.mem_singleton.1 h, hy5]
        exact htop b (hsub b hb9)
    have HW5 := Hid.intro hw5
    have HH5 := Hid.intro hh5
    have HL5 := Hid.intro hl5
    clear hw5 hh5 hp5 hB5 hcp hsub htop HJJ HB HW HH HS HA hy5 hb1 hb2 hl5
    obtain ⟨fn, tmps, assign, body, hy, hR⟩ := YieldAt.anyQ (m' := 4) (HY.out pre y w5 HJ5.out (by omega))
    dsimp only [plEnc] at hy
    rw [HYE.out] at hy
    have hR' := hR.mono (R' := fun e W9 => e = .returned (.bool true) ∧ Hid (J (pre ++ [y]) W9 ∧ KpQ G n₀ w5 W9)) (by
      rintro e W9 ⟨h1, h2, h3⟩
      exact ⟨h1, h2, h3⟩)
    clear hR
    gi_wp2_with (refine hR'.mono ?_; rintro e W9 ⟨rfl, hq9⟩)
    clear hR' hy
    have HW9 : Hid (HpW x a3 c3 Wb Bc hb (.slice (some ⟨g, 0, none⟩) (l'.length - 1) cap) l5 W9) := HW5.out.kp hq9.out.2 hn HGG.out k1 k2 k3 k4 (fun g' e => by cases e; exact ⟨k5, k6⟩)
    have HB9 : Hid (Blk Ba #[.pointer (some ⟨hb, 0, none⟩)] 59 W9) := (hq9.out.2.block _ k7 k8).trans HBA5.out
    have HLL : Hid (lenH hb W9 < l'.length) := by
      show _ < _
      rw [HW9.out.len, HL5.out]
      omega
    go_wp2_with fail
    go_roundw
    case rel => exact ⟨pre ++ [y], _, l5, HW9, fun _ => ⟨cap, by rw [HL5.out]⟩, (fun g' e => by cases e; rfl), HH5, HPP, HSP, HAP, hq9.out.1, HB9⟩
    case measure =>
      have h8 := HLL.out
      have h9 := HLEN.out
      omega

end Go.Proofs.YtggbhggnemlpnaaGreat
