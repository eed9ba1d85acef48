/-
  MateLive of the specification; both sides' answers are one. Made by mkml7.py.
-/
import Derived.Test.YtalnkbocfhhjkaaMl61
import Derived.Test.YtalnkbocfhhjkaaMl62
import Derived.Test.YtalnkbocfhhjkaaMl63
import Derived.Test.YtalnkbocfhhjkaaMl64
import Derived.Test.YtalnkbocfhhjkaaMl65
import Derived.Test.YtalnkbocfhhjkaaMl66
import Derived.Test.YtalnkbocfhhjkaaMl6o
namespace Go.Proofs.Ytalnkbocfhhjkaa
open Go.RowKit

theorem specLive_any (x : Rn) (y : Wnt) (wanted : Bool) (c : Int) (w : World) :
    Calls Try.prog 6 #[.agg #[.string x.want.copy, .int .i64 x.want.version, .string x.want.hold, .int .i64 x.want.pull, .int .i64 x.want.start, .int .i64 x.want.dies, .int .i64 x.want.grace, .int .i64 x.state, .int .i64 x.left, .int .i64 x.falls, .int .i64 x.until_], .agg #[.string y.copy, .int .i64 y.version, .string y.hold, .int .i64 y.pull, .int .i64 y.start, .int .i64 y.dies, .int .i64 y.grace], .bool wanted, .int .i64 c] w fun e w' => ∃ F : Rn, ∃ k : Bool, (F, k) = livS x (!(wanted && eqW y x.want)) c ∧ e = .returned (.tuple #[.agg #[.string F.want.copy, .int .i64 F.want.version, .string F.want.hold, .int .i64 F.want.pull, .int .i64 F.want.start, .int .i64 F.want.dies, .int .i64 F.want.grace, .int .i64 F.state, .int .i64 F.left, .int .i64 F.falls, .int .i64 F.until_], .bool k]) ∧ Below w.heap.size w w' := by
  obtain ⟨wn, s, l, f, u⟩ := x
  by_cases h1 : s = 1
  · subst h1; exact specLive1_any wn l f u y wanted c w
  by_cases h2 : s = 2
  · subst h2; exact specLive2_any wn l f u y wanted c w
  by_cases h3 : s = 3
  · subst h3; exact specLive3_any wn l f u y wanted c w
  by_cases h4 : s = 4
  · subst h4; exact specLive4_any wn l f u y wanted c w
  by_cases h5 : s = 5
  · subst h5; exact specLive5_any wn l f u y wanted c w
  by_cases h6 : s = 6
  · subst h6; exact specLive6_any wn l f u y wanted c w
  exact specLiveo_any wn s l f u y wanted c w h1 h2 h3 h4 h5 h6

theorem runS_none (c : Int) (n : Nat) (x : Rn) (g : Bool) : runS c n none x g = (x, g) := by cases n <;> rfl

theorem run_stop (x : Rn) (c : Int) (n : Nat) : lvA (runS c (n + 2) (some 26) x false) = if 1 < x.left then (ctR x, true) else (noRn, false) := by
  show lvA (runS c (n + 1) (nxt x (some 29)) (ctR x) false) = _
  by_cases h : 1 < x.left
  · rw [show nxt x (some 29) = none from if_pos h, if_pos h]
    rfl
  · rw [show nxt x (some 29) = some 29 from if_neg h, if_neg h]
    show lvA (runS c n none (ctR x) true) = _
    rw [runS_none]
    rfl

theorem ctR_pos {x : Rn} (h : 1 < x.left) : ctR x = { x with left := wrap64 (x.left - 1) } := if_pos h
theorem ctR_neg {x : Rn} (h : ¬ 1 < x.left) : ctR x = x := if_neg h

theorem live_eq (x : Rn) (v : Bool) (c : Int) : lvA (runS c 3 (some (fst1 x v)) x false) = livS x (!v) c := by
  cases v with
  | false =>
    show lvA (runS c 2 (unN x) (unR x) false) = livS x true c
    by_cases h6 : x.state = 6
    · unfold livS
      rw [if_neg (show ¬ (true = true ∧ ¬ x.state = 6) from fun h => h.2 h6), show unN x = some 26 from if_pos h6, show unR x = x from if_pos h6, run_stop x c 0]
      by_cases hl : 1 < x.left
      · rw [if_pos hl, if_pos ⟨by omega, hl⟩, ctR_pos hl]
      · rw [if_neg hl, if_neg (by simp [hl]), if_neg (by omega), if_neg (by omega), if_pos h6]
    · unfold livS
      rw [if_pos ⟨rfl, h6⟩]
      by_cases ha : alB x.state = true
      · rw [show unN x = none from (if_neg h6).trans (if_pos ha), show unR x = { x with state := 6, left := x.want.grace } from (if_neg h6).trans (if_pos ha), if_pos ha]
        rfl
      · rw [show unN x = some 29 from (if_neg h6).trans (if_neg ha), show unR x = x from (if_neg h6).trans (if_neg ha), if_neg ha]
        rfl
  | true =>
    show lvA (runS c 3 (some (stF x.state)) x false) = livS x false c
    unfold livS
    rw [if_neg (by simp)]
    by_cases h1 : x.state = 1
    · rw [show stF x.state = 32 from by rw [h1]; rfl]
      show lvA (runS c 2 (nxt x (some 33)) (ctR x) false) = _
      by_cases hl : 1 < x.left
      · rw [show nxt x (some 33) = none from if_pos hl, ctR_pos hl, if_pos ⟨by omega, hl⟩]
        rfl
      · rw [show nxt x (some 33) = some 33 from if_neg hl, ctR_neg hl, if_neg (by simp [hl]), if_neg (by omega), if_neg (by omega), if_neg (by omega), if_pos (.inl h1)]
        rfl
    by_cases h2 : x.state = 2
    · rw [show stF x.state = 33 from by rw [h2]; rfl, if_neg (by simp [h2]), if_neg (by omega), if_neg (by omega), if_neg (by omega), if_pos (.inr (.inl h2))]
      rfl
    by_cases h3 : x.state = 3
    · rw [show stF x.state = 34 from by rw [h3]; rfl]
      show lvA (runS c 2 (nxt x (some 41)) (ctR x) false) = _
      by_cases hl : 1 < x.left
      · rw [show nxt x (some 41) = none from if_pos hl, ctR_pos hl, if_pos ⟨h2, hl⟩]
        rfl
      · rw [show nxt x (some 41) = some 41 from if_neg hl, ctR_neg hl, if_neg (by simp [hl]), if_pos h3]
        rfl
    by_cases h4 : x.state = 4
    · rw [show stF x.state = 35 from by rw [h4]; rfl]
      show lvA (runS c 2 (nxt x (some 42)) (ctR x) false) = _
      by_cases hl : 1 < x.left
      · rw [show nxt x (some 42) = none from if_pos hl, ctR_pos hl, if_pos ⟨h2, hl⟩]
        rfl
      · rw [show nxt x (some 42) = some 42 from if_neg hl, ctR_neg hl, if_neg (by simp [hl]), if_neg h3, if_pos h4]
        rfl
    by_cases h5 : x.state = 5
    · rw [show stF x.state = 36 from by rw [h5]; rfl]
      show lvA (runS c 2 (nxt x (some 33)) (ctR x) false) = _
      by_cases hl : 1 < x.left
      · rw [show nxt x (some 33) = none from if_pos hl, ctR_pos hl, if_pos ⟨h2, hl⟩]
        rfl
      · rw [show nxt x (some 33) = some 33 from if_neg hl, ctR_neg hl, if_neg (by simp [hl]), if_neg h3, if_neg h4, if_neg (by omega), if_pos (.inr (.inr h5))]
        rfl
    by_cases h6 : x.state = 6
    · rw [show stF x.state = 26 from by rw [h6]; rfl, run_stop x c 1]
      by_cases hl : 1 < x.left
      · rw [if_pos hl, if_pos ⟨h2, hl⟩, ctR_pos hl]
      · rw [if_neg hl, if_neg (by simp [hl]), if_neg h3, if_neg h4, if_pos h6]
    · rw [show stF x.state = 31 from by unfold stF; rw [if_neg h1, if_neg h2, if_neg h3, if_neg h4, if_neg h5, if_neg h6]]
      show lvA (runS c 2 (nxt x none) (ctR x) false) = _
      rw [show nxt x none = none from by unfold nxt; split <;> rfl]
      by_cases hl : 1 < x.left
      · rw [ctR_pos hl, if_pos ⟨h2, hl⟩]
        rfl
      · rw [ctR_neg hl, if_neg (by simp [hl]), if_neg h3, if_neg h4, if_neg h6, if_neg (by rintro (h | h | h) <;> contradiction)]
        rfl

end Go.Proofs.Ytalnkbocfhhjkaa
