/-
  What a mate tells of itself, in plain words. Made by mkrp.py.
-/
import Derived.Test.YtlegklkbmifdeaaRwRan
import Derived.Test.YtlegklkbmifdeaaRis
namespace Go.Proofs.Ytlegklkbmifdeaa
open Go.RowKit

structure Rep where
  berth : ByteArray
  seen : Int
  runs : List Ran

def ranOf (r : Rn) : Ran := ⟨r.want.copy, r.want.version, r.state⟩
def repY (x : Mte) : Rep := ⟨x.name, if x.known = true then x.seen else 0, x.runs.map ranOf⟩
def repN : Rep := ⟨⟨#[]⟩, 0, []⟩
def repOf (x : Mte) : Rep := if mvB x = true ∧ x.up = true then repY x else repN

theorem isz_Rep : (Try.prog.info? 30).map (·.size) = some 3 := by kernel_rfl

theorem repOf_inv {x : Mte} (h : mvB x = false) : repOf x = repN := by unfold repOf; rw [if_neg (by simp [h])]
theorem repOf_down {x : Mte} (h : x.up = false) : repOf x = repN := by unfold repOf; rw [if_neg (by simp [h])]
theorem repOf_yes {x : Mte} (h : mvB x = true) (u : x.up = true) : repOf x = repY x := by unfold repOf; rw [if_pos ⟨h, u⟩]

theorem ran_step {xs : List Rn} {k : Nat} {r : Rn} (h : xs[k]? = some r) : (xs.take (k + 1)).map ranOf = (xs.take k).map ranOf ++ [ranOf r] := by
  rw [List.take_add_one, h]
  simp

theorem rvRan_app : ∀ (xs ys : List Ran), rvRan (xs ++ ys) = rvRan xs ++ rvRan ys
  | [], _ => rfl
  | x :: r, ys => by simp only [List.cons_append, rvRan, rvRan_app r ys, List.append_assoc]

theorem own_blkR {base n : Nat} {w : World} {e : TypeId} {s : Nat} {cs : List Value} {v : Value} (h : w.ownsRow base e s v n cs) : ∀ j, v.ownBlock = some j → base ≤ j := by
  intro j hj
  rcases h.2 with ⟨h1, _⟩ | ⟨g', cap', cur, h1, h2, _⟩
  · rw [h1] at hj
    cases hj
  · rw [h1] at hj
    cases hj
    exact h2

theorem own_spotR {base n cap : Nat} {a : Option Addr} {w : World} {e : TypeId} {s : Nat} {cs : List Value} (h : w.ownsRow base e s (.slice a n cap) n cs) : ∀ b o sp, a = some ⟨b, o, sp⟩ → sp = none := by
  intro b o sp ea
  rcases h.2 with ⟨h1, _⟩ | ⟨g', cap', cur, h1, _⟩
  · rw [ea] at h1
    cases h1
  · have e2 : a = some ⟨g', 0, none⟩ := by injection h1
    rw [e2] at ea
    cases ea
    rfl

theorem ownsRow_set_othR {base : Nat} {e : TypeId} {s n : Nat} {v : Value} {cs : List Value} {w : World} (h : w.ownsRow base e s v n cs) {a : Addr} (u : Value) (hne : ∀ g c, v = .slice (some ⟨g, 0, none⟩) n c → g ≠ a.block) : (w.setCell a u).ownsRow base e s v n cs := by
  refine ⟨h.1, ?_⟩
  rcases h.2 with h' | ⟨g, cap, cur, h1, h2, h3, h4⟩
  · exact .inl h'
  · exact .inr ⟨g, cap, cur, h1, h2, (Below.heap_setCell w a u g (hne g cap h1)).trans h3, h4⟩

theorem szRan_of {xs : List Rn} {m : Nat} (h : SzRn xs m) : SzRan (xs.map ranOf) m := fun y hy => by
  obtain ⟨r, hr, rfl⟩ := List.mem_map.1 hy
  exact (h r hr).1

theorem rowslRanK {base cap k : Nat} {a : Option Addr} {w : World} {xs : List Ran} (h : w.ownsRow base 52 3 (.slice a k cap) k (rvRan xs)) (hk : xs.length = k) (hm : xs.length ≤ 1048576) (hz : SzRan xs 1048576) : SliceC RanC 3 base w a xs := by
  subst hk
  exact rowslRan h hm hz

theorem eagRan_any (xs : List Ran) (a : Option Addr) (cap lo : Nat) (w : World) (hin : SliceC RanC 3 lo w a xs) (hsm : xs.length ≤ 1048576) (hz : SzRan xs 1048576) (ha : ∀ b o s, a = some ⟨b, o, s⟩ → s = none) :
    Calls Try.prog 47 #[.slice a xs.length cap, .func (.func 48) #[] #[]] w fun e w' => ∃ b q, e = .returned (.slice b xs.length q) ∧ w'.ownsRow w.heap.size 52 3 (.slice b xs.length q) xs.length (rvRan xs) ∧ Below w.heap.size w w' := by
  cases a with
  | none =>
    have hx : xs = [] := by
      rcases hin.2 with h | ⟨b, o, e, _⟩
      · exact h
      · cases e
    subst hx
    exact (eanRan_any _ cap w).mono fun e w' h => ⟨none, 0, h.1, World.ownsRow_nil _ _ _ _, h.2⟩
  | some ad =>
    obtain ⟨b, o, s⟩ := ad
    obtain rfl := ha b o s rfl
    exact (eaRan_any xs b o cap lo w hin hsm hz).mono fun e w' ⟨g, q, h1, h2, h3⟩ => ⟨some ⟨g, 0, none⟩, q, h1, h2, h3⟩

end Go.Proofs.Ytlegklkbmifdeaa
