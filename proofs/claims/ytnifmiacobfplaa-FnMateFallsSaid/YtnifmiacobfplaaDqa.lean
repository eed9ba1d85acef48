import Derived.Test.YtnifmiacobfplaaDr9
import Derived.Test.YtnifmiacobfplaaDrB
import Derived.Test.YtnifmiacobfplaaRwAks
import Derived.Test.YtnifmiacobfplaaJ18
import Derived.Test.YtnifmiacobfplaaNcp
import Derived.Test.YtnifmiacobfplaaLcp
import Derived.Maps.AppendAt
import Derived.Deep.Onto
namespace Go.Proofs.Ytnifmiacobfplaa
open Go.RowKit

def blkO (a : Option Addr) : Option Nat := a.map (·.block)
def Apt (a b : Option Addr) : Prop := ∀ c, blkO a = some c → blkO b ≠ some c

theorem Apt.symm {a b : Option Addr} (h : Apt a b) : Apt b a := fun c h1 h2 => h c h2 h1
theorem Apt.nl (b : Option Addr) : Apt none b := fun _ h => by cases h
theorem Apt.nr (b : Option Addr) : Apt b none := fun _ _ h => by cases h
theorem own_blkO (a : Option Addr) (n c : Nat) : (Value.slice a n c).ownBlock = blkO a := by cases a <;> rfl

theorem heap_setCells_neM {p g : Nat} (h : g ≠ p) : ∀ (vs : List Value) (o : Nat) (w : World), (w.setCells p o vs).heap[g]? = w.heap[g]?
 | [], _, _ => rfl
 | v :: vs, o, w => (heap_setCells_neM h vs (o + 1) (w.setCell ⟨p, o, none⟩ v)).trans (Below.heap_setCell w ⟨p, o, none⟩ v g h)

theorem own_block {base n : Nat} {w : World} {e : TypeId} {s : Nat} {cs : List Value} {v : Value} (h : w.ownsRow base e s v n cs) : ∀ j, v.ownBlock = some j → base ≤ j := fun j hj => (h.lt j hj).1

theorem row_same {base n : Nat} {w w' : World} {e : TypeId} {s : Nat} {cs : List Value} {v : Value} (h : w.ownsRow base e s v n cs) (hs : ∀ b, v.ownBlock = some b → w'.heap[b]? = w.heap[b]?) : w'.ownsRow base e s v n cs := by
 rcases h.2 with ⟨h1, h2⟩ | ⟨g', cap', cur, h1, h2, h3, h4⟩
 ·exact ⟨h.1, .inl ⟨h1, h2⟩⟩
 ·exact ⟨h.1, .inr ⟨g', cap', cur, h1, h2, (hs g' (by rw [h1]; rfl)).trans h3, h4⟩⟩

structure Few (x : Mte) (n : Nat) : Prop where
 l5 : x.wants.length ≤ n
 l6 : x.runs.length ≤ n
 l7 : x.asks.length ≤ n
 l8 : x.gives.length ≤ n

structure MkL (lo : Nat) (x : Mte) (b5 : Option Addr) (q5 : Nat) (b6 : Option Addr) (q6 : Nat) (b7 : Option Addr) (q7 : Nat) (b8 : Option Addr) (q8 : Nat) (w : World) : Prop where
 r5 : w.ownsRow lo 36 7 (.slice b5 x.wants.length q5) x.wants.length (rvWnt x.wants)
 r6 : w.ownsRow lo 38 11 (.slice b6 x.runs.length q6) x.runs.length (rvRn x.runs)
 r7 : w.ownsRow lo 57 4 (.slice b7 x.asks.length q7) x.asks.length (rvAks x.asks)
 r8 : w.ownsRow lo 57 4 (.slice b8 x.gives.length q8) x.gives.length (rvAks x.gives)
 a56 : Apt b5 b6
 a57 : Apt b5 b7
 a58 : Apt b5 b8
 a67 : Apt b6 b7
 a68 : Apt b6 b8
 a78 : Apt b7 b8
 z5 : SzWnt x.wants 100
 z6 : SzRn x.runs 100
 z7 : SzAks x.asks 100
 z8 : SzAks x.gives 100
 n0 : x.name.size ≤ 100

structure MkS (p lo pm : Nat) (x : Mte) (b5 : Option Addr) (q5 : Nat) (b6 : Option Addr) (q6 : Nat) (b7 : Option Addr) (q7 : Nat) (b8 : Option Addr) (q8 : Nat) (w : World) : Prop where
 blk : Blk pm #[.string x.name, .bool x.up, .int .i64 x.clock, .bool x.known, .int .i64 x.seen, .slice b5 x.wants.length q5, .slice b6 x.runs.length q6, .slice b7 x.asks.length q7, .slice b8 x.gives.length q8] 27 w
 L : MkL lo x b5 q5 b6 q6 b7 q7 b8 q8 w
 n5 : blkO b5 ≠ some pm
 n6 : blkO b6 ≠ some pm
 n7 : blkO b7 ≠ some pm
 n8 : blkO b8 ≠ some pm
 hp : p < lo
 hm : lo ≤ pm

section
variable {p lo pm : Nat} {x : Mte} {b5 : Option Addr} {q5 : Nat} {b6 : Option Addr} {q6 : Nat} {b7 : Option Addr} {q7 : Nat} {b8 : Option Addr} {q8 : Nat} {w w' : World}

theorem MkL.same (h : MkL lo x b5 q5 b6 q6 b7 q7 b8 q8 w) (hs : ∀ b, lo ≤ b → b < w.heap.size → w'.heap[b]? = w.heap[b]?) : MkL lo x b5 q5 b6 q6 b7 q7 b8 q8 w' where
 r5 := row_same h.r5 (fun b e => hs b (own_block h.r5 b e) (h.r5.lt b e).2)
 r6 := row_same h.r6 (fun b e => hs b (own_block h.r6 b e) (h.r6.lt b e).2)
 r7 := row_same h.r7 (fun b e => hs b (own_block h.r7 b e) (h.r7.lt b e).2)
 r8 := row_same h.r8 (fun b e => hs b (own_block h.r8 b e) (h.r8.lt b e).2)
 a56 := h.a56
 a57 := h.a57
 a58 := h.a58
 a67 := h.a67
 a68 := h.a68
 a78 := h.a78
 z5 := h.z5
 z6 := h.z6
 z7 := h.z7
 z8 := h.z8
 n0 := h.n0

theorem MkL.keep {g : Nat} (h : MkL lo x b5 q5 b6 q6 b7 q7 b8 q8 w) (n5 : blkO b5 ≠ some g) (n6 : blkO b6 ≠ some g) (n7 : blkO b7 ≠ some g) (n8 : blkO b8 ≠ some g) (hs : ∀ b, b < w.heap.size → b ≠ g → w'.heap[b]? = w.heap[b]?) : MkL lo x b5 q5 b6 q6 b7 q7 b8 q8 w' where
 r5 := row_same h.r5 (fun b e => hs b (h.r5.lt b e).2 (fun e2 => n5 (by rw [own_blkO] at e; rw [e, e2])))
 r6 := row_same h.r6 (fun b e => hs b (h.r6.lt b e).2 (fun e2 => n6 (by rw [own_blkO] at e; rw [e, e2])))
 r7 := row_same h.r7 (fun b e => hs b (h.r7.lt b e).2 (fun e2 => n7 (by rw [own_blkO] at e; rw [e, e2])))
 r8 := row_same h.r8 (fun b e => hs b (h.r8.lt b e).2 (fun e2 => n8 (by rw [own_blkO] at e; rw [e, e2])))
 a56 := h.a56
 a57 := h.a57
 a58 := h.a58
 a67 := h.a67
 a68 := h.a68
 a78 := h.a78
 z5 := h.z5
 z6 := h.z6
 z7 := h.z7
 z8 := h.z8
 n0 := h.n0

theorem MkL.lower {lo' : Nat} (h : MkL lo x b5 q5 b6 q6 b7 q7 b8 q8 w) (hl : lo' ≤ lo) : MkL lo' x b5 q5 b6 q6 b7 q7 b8 q8 w where
 r5 := h.r5.mono hl
 r6 := h.r6.mono hl
 r7 := h.r7.mono hl
 r8 := h.r8.mono hl
 a56 := h.a56
 a57 := h.a57
 a58 := h.a58
 a67 := h.a67
 a68 := h.a68
 a78 := h.a78
 z5 := h.z5
 z6 := h.z6
 z7 := h.z7
 z8 := h.z8
 n0 := h.n0

theorem MkL.to {y : Mte} (h : MkL lo x b5 q5 b6 q6 b7 q7 b8 q8 w) (e5 : y.wants = x.wants) (e6 : y.runs = x.runs) (e7 : y.asks = x.asks) (e8 : y.gives = x.gives) (hn : y.name.size ≤ 100) : MkL lo y b5 q5 b6 q6 b7 q7 b8 q8 w := by
 obtain ⟨yn, yu, yc, yk, ys, yw, yr, ya, yg⟩ := y
 obtain rfl : yw = x.wants := e5
 obtain rfl : yr = x.runs := e6
 obtain rfl : ya = x.asks := e7
 obtain rfl : yg = x.gives := e8
 exact { h with n0 := hn }

theorem MkL.sz (h : MkL lo x b5 q5 b6 q6 b7 q7 b8 q8 w) {n : Nat} (hf : Few x n) (hn : n ≤ 1048576) : MSz x where
 nm := Nat.le_trans h.n0 (by omega)
 z5 := fun z hz => ⟨Nat.le_trans (h.z5 z hz).1 (by omega), Nat.le_trans (h.z5 z hz).2 (by omega)⟩
 z6 := fun z hz => ⟨Nat.le_trans (h.z6 z hz).1 (by omega), Nat.le_trans (h.z6 z hz).2 (by omega)⟩
 z7 := fun z hz => ⟨Nat.le_trans (h.z7 z hz).1 (by omega), Nat.le_trans (h.z7 z hz).2 (by omega)⟩
 z8 := fun z hz => ⟨Nat.le_trans (h.z8 z hz).1 (by omega), Nat.le_trans (h.z8 z hz).2 (by omega)⟩
 l5 := Nat.le_trans hf.l5 hn
 l6 := Nat.le_trans hf.l6 hn
 l7 := Nat.le_trans hf.l7 hn
 l8 := Nat.le_trans hf.l8 hn

theorem row_nil13 {base n cap : Nat} {a : Option Addr} {w : World} {e : TypeId} {s : Nat} {cs : List Value} (h : w.ownsRow base e s (.slice a n cap) n cs) : (a = none → n = 0 ∧ cap = 0) ∧ ∀ b o sp, a = some ⟨b, o, sp⟩ → sp = none := by
 rcases h.2 with ⟨h1, _⟩ | ⟨g', cap', cur, h1, _⟩
 ·injection h1 with h1 h2 h3
  subst h1
  exact ⟨fun _ => ⟨h2, h3⟩, fun _ _ _ e => (by cases e)⟩
 ·have e2 : a = some ⟨g', 0, none⟩ := by injection h1
  subst e2
  exact ⟨fun e => (by cases e), fun _ _ _ e => (by cases e; rfl)⟩

theorem MkL.sv (h : MkL lo x b5 q5 b6 q6 b7 q7 b8 q8 w) {n : Nat} (hf : Few x n) (hn : n ≤ 1048576) : MSv x lo b5 b6 b7 b8 w where
 s5 := rowslWnt h.r5 (h.sz hf hn).l5 (h.sz hf hn).z5
 s6 := rowslRn h.r6 (h.sz hf hn).l6 (h.sz hf hn).z6
 s7 := rowslAks h.r7 (h.sz hf hn).l7 (h.sz hf hn).z7
 s8 := rowslAks h.r8 (h.sz hf hn).l8 (h.sz hf hn).z8
 p5 := (row_nil13 h.r5).2
 p6 := (row_nil13 h.r6).2
 p7 := (row_nil13 h.r7).2
 p8 := (row_nil13 h.r8).2

theorem MkL.nils (h : MkL lo x b5 q5 b6 q6 b7 q7 b8 q8 w) : MNil b5 x.wants.length q5 b6 x.runs.length q6 b7 x.asks.length q7 b8 x.gives.length q8 where
 e5 := (row_nil13 h.r5).1
 e6 := (row_nil13 h.r6).1
 e7 := (row_nil13 h.r7).1
 e8 := (row_nil13 h.r8).1

theorem MkL.ne (h : MkL lo x b5 q5 b6 q6 b7 q7 b8 q8 w) {g : Nat} (hg : w.heap.size ≤ g) : blkO b5 ≠ some g ∧ blkO b6 ≠ some g ∧ blkO b7 ≠ some g ∧ blkO b8 ≠ some g := by
 refine ⟨fun e => ?_, fun e => ?_, fun e => ?_, fun e => ?_⟩
 ·have := (h.r5.lt g (by rw [own_blkO]; exact e)).2
  omega
 ·have := (h.r6.lt g (by rw [own_blkO]; exact e)).2
  omega
 ·have := (h.r7.lt g (by rw [own_blkO]; exact e)).2
  omega
 ·have := (h.r8.lt g (by rw [own_blkO]; exact e)).2
  omega

theorem MkL.none0 (n : ByteArray) (u : Bool) (c : Int) (k : Bool) (s : Int) (lo : Nat) (w : World) (hn : n.size ≤ 100) : MkL lo ⟨n, u, c, k, s, [], [], [], []⟩ none 0 none 0 none 0 none 0 w where
 r5 := World.ownsRow_nil _ _ _ _
 r6 := World.ownsRow_nil _ _ _ _
 r7 := World.ownsRow_nil _ _ _ _
 r8 := World.ownsRow_nil _ _ _ _
 a56 := Apt.nl _
 a57 := Apt.nl _
 a58 := Apt.nl _
 a67 := Apt.nl _
 a68 := Apt.nl _
 a78 := Apt.nl _
 z5 := fun _ h => (by cases h)
 z6 := fun _ h => (by cases h)
 z7 := fun _ h => (by cases h)
 z8 := fun _ h => (by cases h)
 n0 := hn

theorem MkS.lt (h : MkS p lo pm x b5 q5 b6 q6 b7 q7 b8 q8 w) : pm < w.heap.size := h.blk.lt

theorem MkS.same (h : MkS p lo pm x b5 q5 b6 q6 b7 q7 b8 q8 w) (hs : ∀ b, lo ≤ b → b < w.heap.size → w'.heap[b]? = w.heap[b]?) : MkS p lo pm x b5 q5 b6 q6 b7 q7 b8 q8 w' :=
 ⟨(hs pm h.hm h.blk.lt).trans h.blk, h.L.same hs, h.n5, h.n6, h.n7, h.n8, h.hp, h.hm⟩
theorem MkS.below (h : MkS p lo pm x b5 q5 b6 q6 b7 q7 b8 q8 w) (hb : Below w.heap.size w w') : MkS p lo pm x b5 q5 b6 q6 b7 q7 b8 q8 w' := h.same (fun b _ hl => hb.block b hl)
theorem MkS.bt (h : MkS p lo pm x b5 q5 b6 q6 b7 q7 b8 q8 w) (hb : Bt p w.heap.size w w') : MkS p lo pm x b5 q5 b6 q6 b7 q7 b8 q8 w' := h.same (fun b h1 hl => hb.block b hl (by have := h.hp; omega))
theorem MkS.drew (h : MkS p lo pm x b5 q5 b6 q6 b7 q7 b8 q8 w) : MkS p lo pm x b5 q5 b6 q6 b7 q7 b8 q8 w.drew := h.same (fun _ _ _ => rfl)

theorem MkS.oth {g : Nat} (h : MkS p lo pm x b5 q5 b6 q6 b7 q7 b8 q8 w) (hg : g ≠ pm) (m5 : blkO b5 ≠ some g) (m6 : blkO b6 ≠ some g) (m7 : blkO b7 ≠ some g) (m8 : blkO b8 ≠ some g) (hs : ∀ b, b < w.heap.size → b ≠ g → w'.heap[b]? = w.heap[b]?) : MkS p lo pm x b5 q5 b6 q6 b7 q7 b8 q8 w' :=
 ⟨(hs pm h.blk.lt (fun e => hg e.symm)).trans h.blk, h.L.keep m5 m6 m7 m8 hs, h.n5, h.n6, h.n7, h.n8, h.hp, h.hm⟩

theorem MkS.put {y : Mte} (h : MkS p lo pm x b5 q5 b6 q6 b7 q7 b8 q8 w) (o : Nat) (vs : List Value) (hb : Blk pm #[.string y.name, .bool y.up, .int .i64 y.clock, .bool y.known, .int .i64 y.seen, .slice b5 y.wants.length q5, .slice b6 y.runs.length q6, .slice b7 y.asks.length q7, .slice b8 y.gives.length q8] 27 (w.setCells pm o vs)) (e5 : y.wants = x.wants) (e6 : y.runs = x.runs) (e7 : y.asks = x.asks) (e8 : y.gives = x.gives) (hn : y.name.size ≤ 100) : MkS p lo pm y b5 q5 b6 q6 b7 q7 b8 q8 (w.setCells pm o vs) :=
 ⟨hb, (h.L.keep h.n5 h.n6 h.n7 h.n8 (fun _ _ hb => heap_setCells_neM hb vs o w)).to e5 e6 e7 e8 hn, h.n5, h.n6, h.n7, h.n8, h.hp, h.hm⟩

theorem MkS.made (h : MkL lo x b5 q5 b6 q6 b7 q7 b8 q8 w) (hp : p < lo) (hl : lo ≤ w.heap.size) : MkS p lo w.heap.size x b5 q5 b6 q6 b7 q7 b8 q8 (w.alloc (.cells #[.string x.name, .bool x.up, .int .i64 x.clock, .bool x.known, .int .i64 x.seen, .slice b5 x.wants.length q5, .slice b6 x.runs.length q6, .slice b7 x.asks.length q7, .slice b8 x.gives.length q8] 27)) := by
 obtain ⟨m5, m6, m7, m8⟩ := h.ne (Nat.le_refl _)
 exact ⟨Blk.alloc _ _ _, h.same (fun b _ hb => ((Below.refl w.heap.size w).alloc (Nat.le_refl _) _).block b hb), m5, m6, m7, m8, hp, hl⟩

theorem MkL.wants (h : MkL lo x b5 q5 b6 q6 b7 q7 b8 q8 w) {ys : List Wnt} {c5 : Option Addr} {k5 : Nat} (ho : w.ownsRow lo 36 7 (.slice c5 ys.length k5) ys.length (rvWnt ys)) (m6 : Apt c5 b6) (m7 : Apt c5 b7) (m8 : Apt c5 b8) (hz : SzWnt ys 100) : MkL lo { x with wants := ys } c5 k5 b6 q6 b7 q7 b8 q8 w where
 r5 := ho
 r6 := h.r6
 r7 := h.r7
 r8 := h.r8
 a56 := m6
 a57 := m7
 a58 := m8
 a67 := h.a67
 a68 := h.a68
 a78 := h.a78
 z5 := hz
 z6 := h.z6
 z7 := h.z7
 z8 := h.z8
 n0 := h.n0

theorem MkS.wants (h : MkS p lo pm x b5 q5 b6 q6 b7 q7 b8 q8 w) {ys : List Wnt} {c5 : Option Addr} {k5 : Nat} (ho : w.ownsRow lo 36 7 (.slice c5 ys.length k5) ys.length (rvWnt ys)) (m6 : Apt c5 b6) (m7 : Apt c5 b7) (m8 : Apt c5 b8) (hz : SzWnt ys 100) (hn : blkO c5 ≠ some pm) :
  MkS p lo pm { x with wants := ys } c5 k5 b6 q6 b7 q7 b8 q8 (w.setCell ⟨pm, 5, none⟩ (.slice c5 ys.length k5)) :=
 ⟨h.blk.set 5 (.slice c5 ys.length k5), (h.L.wants ho m6 m7 m8 hz).keep hn h.n6 h.n7 h.n8 (fun b _ hb => Below.heap_setCell w ⟨pm, 5, none⟩ _ b hb), hn, h.n6, h.n7, h.n8, h.hp, h.hm⟩

theorem MkL.runs (h : MkL lo x b5 q5 b6 q6 b7 q7 b8 q8 w) {ys : List Rn} {c6 : Option Addr} {k6 : Nat} (ho : w.ownsRow lo 38 11 (.slice c6 ys.length k6) ys.length (rvRn ys)) (m5 : Apt c6 b5) (m7 : Apt c6 b7) (m8 : Apt c6 b8) (hz : SzRn ys 100) : MkL lo { x with runs := ys } b5 q5 c6 k6 b7 q7 b8 q8 w where
 r5 := h.r5
 r6 := ho
 r7 := h.r7
 r8 := h.r8
 a56 := m5.symm
 a57 := h.a57
 a58 := h.a58
 a67 := m7
 a68 := m8
 a78 := h.a78
 z5 := h.z5
 z6 := hz
 z7 := h.z7
 z8 := h.z8
 n0 := h.n0

theorem MkS.runs (h : MkS p lo pm x b5 q5 b6 q6 b7 q7 b8 q8 w) {ys : List Rn} {c6 : Option Addr} {k6 : Nat} (ho : w.ownsRow lo 38 11 (.slice c6 ys.length k6) ys.length (rvRn ys)) (m5 : Apt c6 b5) (m7 : Apt c6 b7) (m8 : Apt c6 b8) (hz : SzRn ys 100) (hn : blkO c6 ≠ some pm) :
  MkS p lo pm { x with runs := ys } b5 q5 c6 k6 b7 q7 b8 q8 (w.setCell ⟨pm, 6, none⟩ (.slice c6 ys.length k6)) :=
 ⟨h.blk.set 6 (.slice c6 ys.length k6), (h.L.runs ho m5 m7 m8 hz).keep h.n5 hn h.n7 h.n8 (fun b _ hb => Below.heap_setCell w ⟨pm, 6, none⟩ _ b hb), h.n5, hn, h.n7, h.n8, h.hp, h.hm⟩

theorem MkL.asks (h : MkL lo x b5 q5 b6 q6 b7 q7 b8 q8 w) {ys : List Aks} {c7 : Option Addr} {k7 : Nat} (ho : w.ownsRow lo 57 4 (.slice c7 ys.length k7) ys.length (rvAks ys)) (m5 : Apt c7 b5) (m6 : Apt c7 b6) (m8 : Apt c7 b8) (hz : SzAks ys 100) : MkL lo { x with asks := ys } b5 q5 b6 q6 c7 k7 b8 q8 w where
 r5 := h.r5
 r6 := h.r6
 r7 := ho
 r8 := h.r8
 a56 := h.a56
 a57 := m5.symm
 a58 := h.a58
 a67 := m6.symm
 a68 := h.a68
 a78 := m8
 z5 := h.z5
 z6 := h.z6
 z7 := hz
 z8 := h.z8
 n0 := h.n0

theorem MkS.asks (h : MkS p lo pm x b5 q5 b6 q6 b7 q7 b8 q8 w) {ys : List Aks} {c7 : Option Addr} {k7 : Nat} (ho : w.ownsRow lo 57 4 (.slice c7 ys.length k7) ys.length (rvAks ys)) (m5 : Apt c7 b5) (m6 : Apt c7 b6) (m8 : Apt c7 b8) (hz : SzAks ys 100) (hn : blkO c7 ≠ some pm) :
  MkS p lo pm { x with asks := ys } b5 q5 b6 q6 c7 k7 b8 q8 (w.setCell ⟨pm, 7, none⟩ (.slice c7 ys.length k7)) :=
 ⟨h.blk.set 7 (.slice c7 ys.length k7), (h.L.asks ho m5 m6 m8 hz).keep h.n5 h.n6 hn h.n8 (fun b _ hb => Below.heap_setCell w ⟨pm, 7, none⟩ _ b hb), h.n5, h.n6, hn, h.n8, h.hp, h.hm⟩

theorem MkL.gives (h : MkL lo x b5 q5 b6 q6 b7 q7 b8 q8 w) {ys : List Aks} {c8 : Option Addr} {k8 : Nat} (ho : w.ownsRow lo 57 4 (.slice c8 ys.length k8) ys.length (rvAks ys)) (m5 : Apt c8 b5) (m6 : Apt c8 b6) (m7 : Apt c8 b7) (hz : SzAks ys 100) : MkL lo { x with gives := ys } b5 q5 b6 q6 b7 q7 c8 k8 w where
 r5 := h.r5
 r6 := h.r6
 r7 := h.r7
 r8 := ho
 a56 := h.a56
 a57 := h.a57
 a58 := m5.symm
 a67 := h.a67
 a68 := m6.symm
 a78 := m7.symm
 z5 := h.z5
 z6 := h.z6
 z7 := h.z7
 z8 := hz
 n0 := h.n0

theorem MkS.gives (h : MkS p lo pm x b5 q5 b6 q6 b7 q7 b8 q8 w) {ys : List Aks} {c8 : Option Addr} {k8 : Nat} (ho : w.ownsRow lo 57 4 (.slice c8 ys.length k8) ys.length (rvAks ys)) (m5 : Apt c8 b5) (m6 : Apt c8 b6) (m7 : Apt c8 b7) (hz : SzAks ys 100) (hn : blkO c8 ≠ some pm) :
  MkS p lo pm { x with gives := ys } b5 q5 b6 q6 b7 q7 c8 k8 (w.setCell ⟨pm, 8, none⟩ (.slice c8 ys.length k8)) :=
 ⟨h.blk.set 8 (.slice c8 ys.length k8), (h.L.gives ho m5 m6 m7 hz).keep h.n5 h.n6 h.n7 hn (fun b _ hb => Below.heap_setCell w ⟨pm, 8, none⟩ _ b hb), h.n5, h.n6, h.n7, hn, h.hp, h.hm⟩

theorem apt_new {a c : Option Addr} {n q m k base N : Nat} {e e2 : TypeId} {s s2 : Nat} {cs ds : List Value} (h : w.ownsRow base e s (.slice a n q) n cs) (h2 : w'.ownsRow N e2 s2 (.slice c m k) m ds) (hN : w.heap.size ≤ N) : Apt c a := fun b h3 h4 => by
 have := (h.lt b (by rw [own_blkO]; exact h4)).2
 have := own_block h2 b (by rw [own_blkO]; exact h3)
 omega

theorem apt_grown {a b c : Option Addr} {n q m k N : Nat} {e : TypeId} {s base : Nat} {cs : List Value} (hab : Apt b a) (h : w.ownsRow base e s (.slice a n q) n cs) (hN : w.heap.size ≤ N) (hc : (Value.slice c m k).ownBlock = blkO b ∨ (Value.slice c m k).ownBlock = some N) : Apt c a := fun d h3 h4 => by
 rcases hc with hc | hc
 ·rw [own_blkO] at hc
  exact hab d (hc.symm.trans h3) h4
 ·rw [own_blkO, h3] at hc
  have := (h.lt d (by rw [own_blkO]; exact h4)).2
  cases hc
  omega

theorem ne_grown {b c : Option Addr} {m k N g : Nat} (hb : blkO b ≠ some g) (hN : g < N) (hc : (Value.slice c m k).ownBlock = blkO b ∨ (Value.slice c m k).ownBlock = some N) : blkO c ≠ some g := fun e => by
 rcases hc with hc | hc
 ·rw [own_blkO] at hc
  exact hb (hc.symm.trans e)
 ·rw [own_blkO, e] at hc
  cases hc
  omega

theorem MkS.blk6 (h : MkS p lo pm x b5 q5 b6 q6 b7 q7 b8 q8 w) (hg : w.grownBy w' (blkO b6)) : Blk pm #[.string x.name, .bool x.up, .int .i64 x.clock, .bool x.known, .int .i64 x.seen, .slice b5 x.wants.length q5, .slice b6 x.runs.length q6, .slice b7 x.asks.length q7, .slice b8 x.gives.length q8] 27 w' := h.blk.grown hg (fun e => h.n6 e.symm)

theorem MkS.grown6 (h : MkS p lo pm x b5 q5 b6 q6 b7 q7 b8 q8 w) (hg : w.grownBy w' (blkO b6)) {ys : List Rn} {c6 : Option Addr} {k6 : Nat} (ho : w'.ownsRow lo 38 11 (.slice c6 ys.length k6) ys.length (rvRn ys)) (hc : (Value.slice c6 ys.length k6).ownBlock = blkO b6 ∨ (Value.slice c6 ys.length k6).ownBlock = some w.heap.size) (hz : SzRn ys 100) :
  MkS p lo pm { x with runs := ys } b5 q5 c6 k6 b7 q7 b8 q8 (w'.setCell ⟨pm, 6, none⟩ (.slice c6 ys.length k6)) := by
 have g5 : w'.ownsRow lo 36 7 (.slice b5 x.wants.length q5) x.wants.length (rvWnt x.wants) := row_same h.L.r5 (fun b e => hg.block b (h.L.r5.lt b e).2 (fun e2 => h.L.a56.symm b e2.symm (by rw [own_blkO] at e; exact e)))
 have g7 : w'.ownsRow lo 57 4 (.slice b7 x.asks.length q7) x.asks.length (rvAks x.asks) := row_same h.L.r7 (fun b e => hg.block b (h.L.r7.lt b e).2 (fun e2 => h.L.a67 b e2.symm (by rw [own_blkO] at e; exact e)))
 have g8 : w'.ownsRow lo 57 4 (.slice b8 x.gives.length q8) x.gives.length (rvAks x.gives) := row_same h.L.r8 (fun b e => hg.block b (h.L.r8.lt b e).2 (fun e2 => h.L.a68 b e2.symm (by rw [own_blkO] at e; exact e)))
 have hn : blkO c6 ≠ some pm := ne_grown h.n6 h.blk.lt hc
 have hL : MkL lo { x with runs := ys } b5 q5 c6 k6 b7 q7 b8 q8 w' := by
  exact {
   r5 := g5
   r6 := ho
   r7 := g7
   r8 := g8
   a56 := (apt_grown (h.L.a56.symm) h.L.r5 (Nat.le_refl _) hc).symm
   a57 := h.L.a57
   a58 := h.L.a58
   a67 := apt_grown (h.L.a67) h.L.r7 (Nat.le_refl _) hc
   a68 := apt_grown (h.L.a68) h.L.r8 (Nat.le_refl _) hc
   a78 := h.L.a78
   z5 := h.L.z5
   z6 := hz
   z7 := h.L.z7
   z8 := h.L.z8
   n0 := h.L.n0
  }
 exact ⟨(h.blk6 hg).set 6 (.slice c6 ys.length k6), hL.keep h.n5 hn h.n7 h.n8 (fun b _ hb => Below.heap_setCell w' ⟨pm, 6, none⟩ _ b hb), h.n5, hn, h.n7, h.n8, h.hp, h.hm⟩

theorem MkS.blk7 (h : MkS p lo pm x b5 q5 b6 q6 b7 q7 b8 q8 w) (hg : w.grownBy w' (blkO b7)) : Blk pm #[.string x.name, .bool x.up, .int .i64 x.clock, .bool x.known, .int .i64 x.seen, .slice b5 x.wants.length q5, .slice b6 x.runs.length q6, .slice b7 x.asks.length q7, .slice b8 x.gives.length q8] 27 w' := h.blk.grown hg (fun e => h.n7 e.symm)

theorem MkS.grown7 (h : MkS p lo pm x b5 q5 b6 q6 b7 q7 b8 q8 w) (hg : w.grownBy w' (blkO b7)) {ys : List Aks} {c7 : Option Addr} {k7 : Nat} (ho : w'.ownsRow lo 57 4 (.slice c7 ys.length k7) ys.length (rvAks ys)) (hc : (Value.slice c7 ys.length k7).ownBlock = blkO b7 ∨ (Value.slice c7 ys.length k7).ownBlock = some w.heap.size) (hz : SzAks ys 100) :
  MkS p lo pm { x with asks := ys } b5 q5 b6 q6 c7 k7 b8 q8 (w'.setCell ⟨pm, 7, none⟩ (.slice c7 ys.length k7)) := by
 have g5 : w'.ownsRow lo 36 7 (.slice b5 x.wants.length q5) x.wants.length (rvWnt x.wants) := row_same h.L.r5 (fun b e => hg.block b (h.L.r5.lt b e).2 (fun e2 => h.L.a57.symm b e2.symm (by rw [own_blkO] at e; exact e)))
 have g6 : w'.ownsRow lo 38 11 (.slice b6 x.runs.length q6) x.runs.length (rvRn x.runs) := row_same h.L.r6 (fun b e => hg.block b (h.L.r6.lt b e).2 (fun e2 => h.L.a67.symm b e2.symm (by rw [own_blkO] at e; exact e)))
 have g8 : w'.ownsRow lo 57 4 (.slice b8 x.gives.length q8) x.gives.length (rvAks x.gives) := row_same h.L.r8 (fun b e => hg.block b (h.L.r8.lt b e).2 (fun e2 => h.L.a78 b e2.symm (by rw [own_blkO] at e; exact e)))
 have hn : blkO c7 ≠ some pm := ne_grown h.n7 h.blk.lt hc
 have hL : MkL lo { x with asks := ys } b5 q5 b6 q6 c7 k7 b8 q8 w' := by
  exact {
   r5 := g5
   r6 := g6
   r7 := ho
   r8 := g8
   a56 := h.L.a56
   a57 := (apt_grown (h.L.a57.symm) h.L.r5 (Nat.le_refl _) hc).symm
   a58 := h.L.a58
   a67 := (apt_grown (h.L.a67.symm) h.L.r6 (Nat.le_refl _) hc).symm
   a68 := h.L.a68
   a78 := apt_grown (h.L.a78) h.L.r8 (Nat.le_refl _) hc
   z5 := h.L.z5
   z6 := h.L.z6
   z7 := hz
   z8 := h.L.z8
   n0 := h.L.n0
  }
 exact ⟨(h.blk7 hg).set 7 (.slice c7 ys.length k7), hL.keep h.n5 h.n6 hn h.n8 (fun b _ hb => Below.heap_setCell w' ⟨pm, 7, none⟩ _ b hb), h.n5, h.n6, hn, h.n8, h.hp, h.hm⟩

theorem MkS.blk8 (h : MkS p lo pm x b5 q5 b6 q6 b7 q7 b8 q8 w) (hg : w.grownBy w' (blkO b8)) : Blk pm #[.string x.name, .bool x.up, .int .i64 x.clock, .bool x.known, .int .i64 x.seen, .slice b5 x.wants.length q5, .slice b6 x.runs.length q6, .slice b7 x.asks.length q7, .slice b8 x.gives.length q8] 27 w' := h.blk.grown hg (fun e => h.n8 e.symm)

theorem MkS.grown8 (h : MkS p lo pm x b5 q5 b6 q6 b7 q7 b8 q8 w) (hg : w.grownBy w' (blkO b8)) {ys : List Aks} {c8 : Option Addr} {k8 : Nat} (ho : w'.ownsRow lo 57 4 (.slice c8 ys.length k8) ys.length (rvAks ys)) (hc : (Value.slice c8 ys.length k8).ownBlock = blkO b8 ∨ (Value.slice c8 ys.length k8).ownBlock = some w.heap.size) (hz : SzAks ys 100) :
  MkS p lo pm { x with gives := ys } b5 q5 b6 q6 b7 q7 c8 k8 (w'.setCell ⟨pm, 8, none⟩ (.slice c8 ys.length k8)) := by
 have g5 : w'.ownsRow lo 36 7 (.slice b5 x.wants.length q5) x.wants.length (rvWnt x.wants) := row_same h.L.r5 (fun b e => hg.block b (h.L.r5.lt b e).2 (fun e2 => h.L.a58.symm b e2.symm (by rw [own_blkO] at e; exact e)))
 have g6 : w'.ownsRow lo 38 11 (.slice b6 x.runs.length q6) x.runs.length (rvRn x.runs) := row_same h.L.r6 (fun b e => hg.block b (h.L.r6.lt b e).2 (fun e2 => h.L.a68.symm b e2.symm (by rw [own_blkO] at e; exact e)))
 have g7 : w'.ownsRow lo 57 4 (.slice b7 x.asks.length q7) x.asks.length (rvAks x.asks) := row_same h.L.r7 (fun b e => hg.block b (h.L.r7.lt b e).2 (fun e2 => h.L.a78.symm b e2.symm (by rw [own_blkO] at e; exact e)))
 have hn : blkO c8 ≠ some pm := ne_grown h.n8 h.blk.lt hc
 have hL : MkL lo { x with gives := ys } b5 q5 b6 q6 b7 q7 c8 k8 w' := by
  exact {
   r5 := g5
   r6 := g6
   r7 := g7
   r8 := ho
   a56 := h.L.a56
   a57 := h.L.a57
   a58 := (apt_grown (h.L.a58.symm) h.L.r5 (Nat.le_refl _) hc).symm
   a67 := h.L.a67
   a68 := (apt_grown (h.L.a68.symm) h.L.r6 (Nat.le_refl _) hc).symm
   a78 := (apt_grown (h.L.a78.symm) h.L.r7 (Nat.le_refl _) hc).symm
   z5 := h.L.z5
   z6 := h.L.z6
   z7 := h.L.z7
   z8 := hz
   n0 := h.L.n0
  }
 exact ⟨(h.blk8 hg).set 8 (.slice c8 ys.length k8), hL.keep h.n5 h.n6 h.n7 hn (fun b _ hb => Below.heap_setCell w' ⟨pm, 8, none⟩ _ b hb), h.n5, h.n6, h.n7, hn, h.hp, h.hm⟩

end

theorem rvWnt_part : ∀ (xs : List Wnt) (k : Nat) (x y : Wnt) (o : Nat) (vs : List Value), xs[k]? = some x → o + vs.length ≤ 7 → rcWnt y = setRun (rcWnt x) o vs → setRun (rvWnt xs) (k * 7 + o) vs = rvWnt (xs.set k y)
 | [], _, _, _, _, _, h, _, _ => by simp at h
 | z :: r, 0, x, y, o, vs, h, ho, e => by
  simp at h
  subst h
  simp only [rvWnt, List.set_cons_zero, Nat.zero_mul, Nat.zero_add]
  rw [e]
  exact setRun_left vs (rcWnt z) (rvWnt r) o (by rw [rcWnt_len]; exact ho)
 | z :: r, k + 1, x, y, o, vs, h, ho, e => by
  simp at h
  simp only [rvWnt, List.set_cons_succ]
  rw [setRun_app _ _ _ _ (by rw [rcWnt_len]; omega), rcWnt_len, show (k + 1) * 7 + o - 7 = k * 7 + o by omega, rvWnt_part r k x y o vs h ho e]
 where
 setRun_left : ∀ (vs a b : List Value) (o : Nat), o + vs.length ≤ a.length → setRun (a ++ b) o vs = setRun a o vs ++ b
  | [], _, _, _, _ => rfl
  | v :: vs, a, b, o, h => by
   simp only [setRun, List.length_cons] at h ⊢
   rw [List.set_append_left _ _ (by omega)]
   exact setRun_left vs (a.set o v) b (o + 1) (by rw [List.length_set]; omega)

theorem rvpWnt_at : ∀ (xs : List Wnt) (k j : Nat) (x : Wnt), xs[k]? = some x → j < 7 → (rvWnt xs)[k * 7 + j]? = (rcWnt x)[j]?
 | [], _, _, _, h, _ => by simp at h
 | z :: r, 0, j, x, h, hj => by
  simp at h
  subst h
  simp only [rvWnt, Nat.zero_mul, Nat.zero_add]
  exact List.getElem?_append_left (by rw [rcWnt_len]; exact hj)
 | z :: r, k + 1, j, x, h, hj => by
  simp at h
  simp only [rvWnt]
  rw [List.getElem?_append_right (by rw [rcWnt_len]; omega), rcWnt_len, show (k + 1) * 7 + j - 7 = k * 7 + j by omega]
  exact rvpWnt_at r k j x h hj

theorem rvRn_part : ∀ (xs : List Rn) (k : Nat) (x y : Rn) (o : Nat) (vs : List Value), xs[k]? = some x → o + vs.length ≤ 11 → rcRn y = setRun (rcRn x) o vs → setRun (rvRn xs) (k * 11 + o) vs = rvRn (xs.set k y)
 | [], _, _, _, _, _, h, _, _ => by simp at h
 | z :: r, 0, x, y, o, vs, h, ho, e => by
  simp at h
  subst h
  simp only [rvRn, List.set_cons_zero, Nat.zero_mul, Nat.zero_add]
  rw [e]
  exact setRun_left vs (rcRn z) (rvRn r) o (by rw [rcRn_len]; exact ho)
 | z :: r, k + 1, x, y, o, vs, h, ho, e => by
  simp at h
  simp only [rvRn, List.set_cons_succ]
  rw [setRun_app _ _ _ _ (by rw [rcRn_len]; omega), rcRn_len, show (k + 1) * 11 + o - 11 = k * 11 + o by omega, rvRn_part r k x y o vs h ho e]
 where
 setRun_left : ∀ (vs a b : List Value) (o : Nat), o + vs.length ≤ a.length → setRun (a ++ b) o vs = setRun a o vs ++ b
  | [], _, _, _, _ => rfl
  | v :: vs, a, b, o, h => by
   simp only [setRun, List.length_cons] at h ⊢
   rw [List.set_append_left _ _ (by omega)]
   exact setRun_left vs (a.set o v) b (o + 1) (by rw [List.length_set]; omega)

theorem rvpRn_at : ∀ (xs : List Rn) (k j : Nat) (x : Rn), xs[k]? = some x → j < 11 → (rvRn xs)[k * 11 + j]? = (rcRn x)[j]?
 | [], _, _, _, h, _ => by simp at h
 | z :: r, 0, j, x, h, hj => by
  simp at h
  subst h
  simp only [rvRn, Nat.zero_mul, Nat.zero_add]
  exact List.getElem?_append_left (by rw [rcRn_len]; exact hj)
 | z :: r, k + 1, j, x, h, hj => by
  simp at h
  simp only [rvRn]
  rw [List.getElem?_append_right (by rw [rcRn_len]; omega), rcRn_len, show (k + 1) * 11 + j - 11 = k * 11 + j by omega]
  exact rvpRn_at r k j x h hj

theorem row_put {base g cap n : Nat} {e : TypeId} {s : Nat} : ∀ (vs : List Value) (o : Nat) (cs : List Value) (w : World), w.ownsRow base e s (.slice (some ⟨g, 0, none⟩) n cap) n cs → (w.setCells g o vs).ownsRow base e s (.slice (some ⟨g, 0, none⟩) n cap) n (setRun cs o vs)
 | [], _, _, _, h => h
 | v :: vs, o, cs, w, h => row_put vs (o + 1) (cs.set o v) (w.setCell ⟨g, o, none⟩ v) (h.stored o v).1

section
variable {p lo pm : Nat} {x : Mte} {b5 : Option Addr} {q5 : Nat} {b6 : Option Addr} {q6 : Nat} {b7 : Option Addr} {q7 : Nat} {b8 : Option Addr} {q8 : Nat} {w w' : World}

theorem MkS.at5 (h : MkS p lo pm x b5 q5 b6 q6 b7 q7 b8 q8 w) {k : Nat} {r : Wnt} (hk : x.wants[k]? = some r) : ∃ g, b5 = some ⟨g, 0, none⟩ ∧ lo ≤ g ∧ g < w.heap.size ∧ g ≠ pm ∧ w.rangeAt g (k * 7) (rcWnt r) ∧ w.there g (k * 7) 7 ∧ ∀ o, w.frozen? ⟨g, o, none⟩ = false := by
 have hl : k < x.wants.length := (List.getElem?_eq_some_iff.1 hk).1
 rcases h.L.r5.2 with ⟨_, h2⟩ | ⟨g, cap, cur, h1, h2, h3, h4⟩
 ·omega
 ·have e : b5 = some ⟨g, 0, none⟩ := by injection h1
  subst e
  have hc : ∀ i, i < 7 → w.cell? ⟨g, k * 7 + i, none⟩ = (rcWnt r)[i]? := fun i hi => by
   rw [h.L.r5.cellAt (k * 7 + i) (by omega), rvpWnt_at _ k i r hk hi]
  refine ⟨g, rfl, h2, (Array.getElem?_eq_some_iff.1 h3).1, fun e => h.n5 (by rw [← e]; rfl), fun i v hi => ?_, fun i hi => ⟨?_, h.L.r5.frozenAt _⟩, fun o => h.L.r5.frozenAt o⟩
  ·have hi2 : i < (rcWnt r).length := (List.getElem?_eq_some_iff.1 hi).1
   rw [rcWnt_len] at hi2
   rw [hc i hi2]
   exact hi
  ·rw [hc i hi, List.getElem?_eq_getElem (by rw [rcWnt_len]; exact hi)]
   rfl

theorem MkS.part5 {g : Nat} (h : MkS p lo pm x (some ⟨g, 0, none⟩) q5 b6 q6 b7 q7 b8 q8 w) {k : Nat} {r : Wnt} (y : Wnt) (o : Nat) (vs : List Value) (hk : x.wants[k]? = some r) (ho : o + vs.length ≤ 7) (e : rcWnt y = setRun (rcWnt r) o vs) (hz : y.copy.size ≤ 100 ∧ y.hold.size ≤ 100) : MkS p lo pm { x with wants := x.wants.set k y } (some ⟨g, 0, none⟩) q5 b6 q6 b7 q7 b8 q8 (w.setCells g (k * 7 + o) vs) := by
 have hgp : pm ≠ g := fun e => h.n5 (by rw [e]; rfl)
 have hs : ∀ b, b ≠ g → (w.setCells g (k * 7 + o) vs).heap[b]? = w.heap[b]? := fun b hb => heap_setCells_neM hb vs _ w
 have g6 : (w.setCells g (k * 7 + o) vs).ownsRow lo 38 11 (.slice b6 x.runs.length q6) x.runs.length (rvRn x.runs) := row_same h.L.r6 (fun b e2 => hs b (fun e3 => h.L.a56 g rfl (by rw [own_blkO] at e2; rw [e2, e3])))
 have g7 : (w.setCells g (k * 7 + o) vs).ownsRow lo 57 4 (.slice b7 x.asks.length q7) x.asks.length (rvAks x.asks) := row_same h.L.r7 (fun b e2 => hs b (fun e3 => h.L.a57 g rfl (by rw [own_blkO] at e2; rw [e2, e3])))
 have g8 : (w.setCells g (k * 7 + o) vs).ownsRow lo 57 4 (.slice b8 x.gives.length q8) x.gives.length (rvAks x.gives) := row_same h.L.r8 (fun b e2 => hs b (fun e3 => h.L.a58 g rfl (by rw [own_blkO] at e2; rw [e2, e3])))
 have g5 := row_put vs (k * 7 + o) _ w h.L.r5
 rw [rvWnt_part _ k r y o vs hk ho e] at g5
 have hl : (x.wants.set k y).length = x.wants.length := List.length_set
 have hL : MkL lo { x with wants := x.wants.set k y } (some ⟨g, 0, none⟩) q5 b6 q6 b7 q7 b8 q8 (w.setCells g (k * 7 + o) vs) := by
  exact {
   r5 := by show World.ownsRow _ _ _ _ _ _ _; rw [hl]; exact g5
   r6 := g6
   r7 := g7
   r8 := g8
   a56 := h.L.a56
   a57 := h.L.a57
   a58 := h.L.a58
   a67 := h.L.a67
   a68 := h.L.a68
   a78 := h.L.a78
   z5 := fun z hm => (List.mem_or_eq_of_mem_set hm).elim (h.L.z5 z) (fun e4 => by rw [e4]; exact hz)
   z6 := h.L.z6
   z7 := h.L.z7
   z8 := h.L.z8
   n0 := h.L.n0
  }
 refine ⟨?_, hL, h.n5, h.n6, h.n7, h.n8, h.hp, h.hm⟩
 show Blk pm #[.string x.name, .bool x.up, .int .i64 x.clock, .bool x.known, .int .i64 x.seen, .slice (some ⟨g, 0, none⟩) (x.wants.set k y).length q5, .slice b6 x.runs.length q6, .slice b7 x.asks.length q7, .slice b8 x.gives.length q8] _ _
 rw [hl]
 exact (hs pm hgp).trans h.blk

theorem MkS.at6 (h : MkS p lo pm x b5 q5 b6 q6 b7 q7 b8 q8 w) {k : Nat} {r : Rn} (hk : x.runs[k]? = some r) : ∃ g, b6 = some ⟨g, 0, none⟩ ∧ lo ≤ g ∧ g < w.heap.size ∧ g ≠ pm ∧ w.rangeAt g (k * 11) (rcRn r) ∧ w.there g (k * 11) 11 ∧ ∀ o, w.frozen? ⟨g, o, none⟩ = false := by
 have hl : k < x.runs.length := (List.getElem?_eq_some_iff.1 hk).1
 rcases h.L.r6.2 with ⟨_, h2⟩ | ⟨g, cap, cur, h1, h2, h3, h4⟩
 ·omega
 ·have e : b6 = some ⟨g, 0, none⟩ := by injection h1
  subst e
  have hc : ∀ i, i < 11 → w.cell? ⟨g, k * 11 + i, none⟩ = (rcRn r)[i]? := fun i hi => by
   rw [h.L.r6.cellAt (k * 11 + i) (by omega), rvpRn_at _ k i r hk hi]
  refine ⟨g, rfl, h2, (Array.getElem?_eq_some_iff.1 h3).1, fun e => h.n6 (by rw [← e]; rfl), fun i v hi => ?_, fun i hi => ⟨?_, h.L.r6.frozenAt _⟩, fun o => h.L.r6.frozenAt o⟩
  ·have hi2 : i < (rcRn r).length := (List.getElem?_eq_some_iff.1 hi).1
   rw [rcRn_len] at hi2
   rw [hc i hi2]
   exact hi
  ·rw [hc i hi, List.getElem?_eq_getElem (by rw [rcRn_len]; exact hi)]
   rfl

theorem MkS.part6 {g : Nat} (h : MkS p lo pm x b5 q5 (some ⟨g, 0, none⟩) q6 b7 q7 b8 q8 w) {k : Nat} {r : Rn} (y : Rn) (o : Nat) (vs : List Value) (hk : x.runs[k]? = some r) (ho : o + vs.length ≤ 11) (e : rcRn y = setRun (rcRn r) o vs) (hz : y.want.copy.size ≤ 100 ∧ y.want.hold.size ≤ 100) : MkS p lo pm { x with runs := x.runs.set k y } b5 q5 (some ⟨g, 0, none⟩) q6 b7 q7 b8 q8 (w.setCells g (k * 11 + o) vs) := by
 have hgp : pm ≠ g := fun e => h.n6 (by rw [e]; rfl)
 have hs : ∀ b, b ≠ g → (w.setCells g (k * 11 + o) vs).heap[b]? = w.heap[b]? := fun b hb => heap_setCells_neM hb vs _ w
 have g5 : (w.setCells g (k * 11 + o) vs).ownsRow lo 36 7 (.slice b5 x.wants.length q5) x.wants.length (rvWnt x.wants) := row_same h.L.r5 (fun b e2 => hs b (fun e3 => h.L.a56.symm g rfl (by rw [own_blkO] at e2; rw [e2, e3])))
 have g7 : (w.setCells g (k * 11 + o) vs).ownsRow lo 57 4 (.slice b7 x.asks.length q7) x.asks.length (rvAks x.asks) := row_same h.L.r7 (fun b e2 => hs b (fun e3 => h.L.a67 g rfl (by rw [own_blkO] at e2; rw [e2, e3])))
 have g8 : (w.setCells g (k * 11 + o) vs).ownsRow lo 57 4 (.slice b8 x.gives.length q8) x.gives.length (rvAks x.gives) := row_same h.L.r8 (fun b e2 => hs b (fun e3 => h.L.a68 g rfl (by rw [own_blkO] at e2; rw [e2, e3])))
 have g6 := row_put vs (k * 11 + o) _ w h.L.r6
 rw [rvRn_part _ k r y o vs hk ho e] at g6
 have hl : (x.runs.set k y).length = x.runs.length := List.length_set
 have hL : MkL lo { x with runs := x.runs.set k y } b5 q5 (some ⟨g, 0, none⟩) q6 b7 q7 b8 q8 (w.setCells g (k * 11 + o) vs) := by
  exact {
   r5 := g5
   r6 := by show World.ownsRow _ _ _ _ _ _ _; rw [hl]; exact g6
   r7 := g7
   r8 := g8
   a56 := h.L.a56
   a57 := h.L.a57
   a58 := h.L.a58
   a67 := h.L.a67
   a68 := h.L.a68
   a78 := h.L.a78
   z5 := h.L.z5
   z6 := fun z hm => (List.mem_or_eq_of_mem_set hm).elim (h.L.z6 z) (fun e4 => by rw [e4]; exact hz)
   z7 := h.L.z7
   z8 := h.L.z8
   n0 := h.L.n0
  }
 refine ⟨?_, hL, h.n5, h.n6, h.n7, h.n8, h.hp, h.hm⟩
 show Blk pm #[.string x.name, .bool x.up, .int .i64 x.clock, .bool x.known, .int .i64 x.seen, .slice b5 x.wants.length q5, .slice (some ⟨g, 0, none⟩) (x.runs.set k y).length q6, .slice b7 x.asks.length q7, .slice b8 x.gives.length q8] _ _
 rw [hl]
 exact (hs pm hgp).trans h.blk

end

end Go.Proofs.Ytnifmiacobfplaa
