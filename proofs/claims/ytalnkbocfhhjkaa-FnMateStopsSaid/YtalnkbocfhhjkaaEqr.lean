/-
  == of runs; a tick of a run that is not wanted. Made by mklms.py.
-/
import Derived.Test.YtalnkbocfhhjkaaMl7
namespace Go.Proofs.Ytalnkbocfhhjkaa
open Go.RowKit

theorem guardR : Try.prog.eqGuardType Try.prog.depth 26 = false := by kernel_rfl
theorem fieldsR : Try.prog.underlying 26 = some (.struct (Try.prog.fieldsOf 26)) := by kernel_rfl
theorem stoodR : Try.prog.stoodInHeld 26 = false := by kernel_rfl

set_option maxHeartbeats 1000000 in
theorem equalR (a : Rn) (w : World) : (Op.equalIn 10000 26 (.agg #[.string a.want.copy, .int .i64 a.want.version, .string a.want.hold, .int .i64 a.want.pull, .int .i64 a.want.start, .int .i64 a.want.dies, .int .i64 a.want.grace, .int .i64 a.state, .int .i64 a.left, .int .i64 a.falls, .int .i64 a.until_]) (.agg #[.string a.want.copy, .int .i64 a.want.version, .string a.want.hold, .int .i64 a.want.pull, .int .i64 a.want.start, .int .i64 a.want.dies, .int .i64 a.want.grace, .int .i64 a.state, .int .i64 a.left, .int .i64 a.falls, .int .i64 a.until_])).run Try.prog w = .ok true w := by
  rw [show (10000 : Nat) = 9999 + 1 from rfl, run_equalIn_struct w 9999 _ _ _ fieldsR stoodR]
  simp [go_sem, Program.fieldsOf, Try.underlying26, Try.underlying24, Try.underlying3, Try.underlying9]

theorem eqW_self (a : Wnt) : eqW a a = true := by unfold eqW; simp

/-- behind i ticks of a run x that is not wanted -/
def StopAt (x X : Rn) (i : Nat) : Prop := (i = 0 ∧ X = x) ∨ (1 ≤ i ∧ X.state = 6 ∧ X.want = x.want ∧ X.left + i ≤ x.want.grace + 1 ∧ (2 ≤ i → 1 ≤ X.left))

theorem stopAt_want {x X : Rn} {i : Nat} (h : StopAt x X i) : X.want = x.want := by
  rcases h with ⟨_, rfl⟩ | ⟨_, _, h, _⟩
  · rfl
  · exact h

/-- a further tick -/
theorem stopAt_next {x X F : Rn} {i : Nat} {k : Bool} {c : Int} (h : StopAt x X i) (hg : x.want.grace ≤ 100) (hl : x.state = 6 → x.left ≤ x.want.grace) (hF : (F, k) = livS X true c) :
    (k = false → F = noRn) ∧ (k = true → F.state = 6 ∧ F.want = x.want ∧ StopAt x F (i + 1)) := by
  unfold livS at hF
  by_cases h6 : X.state = 6
  · rw [if_neg (by simp [h6])] at hF
    have hlX : X.left ≤ 100 := by
      rcases h with ⟨_, rfl⟩ | ⟨_, _, _, h, _⟩
      · have := hl h6; omega
      · omega
    by_cases h1 : 1 < X.left
    · rw [if_pos ⟨by omega, h1⟩] at hF
      cases hF
      have e : wrap64 (X.left - 1) = X.left - 1 := by unfold wrap64; omega
      have hw := stopAt_want h
      refine ⟨by simp, fun _ => ⟨h6, hw, .inr ⟨by omega, h6, hw, ?_, ?_⟩⟩⟩
      · show wrap64 (X.left - 1) + _ ≤ _
        rw [e]
        rcases h with ⟨rfl, rfl⟩ | ⟨_, _, _, h, _⟩
        · have := hl h6; simp; omega
        · simp; omega
      · intro _
        show 1 ≤ wrap64 (X.left - 1)
        rw [e]; omega
    · rw [if_neg (by omega), if_neg (by omega), if_neg (by omega), if_pos h6] at hF
      cases hF
      exact ⟨fun _ => rfl, by simp⟩
  · rw [if_pos ⟨rfl, h6⟩] at hF
    have h0 : i = 0 ∧ X = x := by
      rcases h with h | ⟨_, h, _⟩
      · exact h
      · exact absurd h h6
    obtain ⟨rfl, rfl⟩ := h0
    by_cases ha : alB X.state = true
    · rw [if_pos ha] at hF
      cases hF
      exact ⟨by simp, fun _ => ⟨rfl, rfl, .inr ⟨by omega, rfl, rfl, by simp, by omega⟩⟩⟩
    · rw [if_neg ha] at hF
      cases hF
      exact ⟨fun _ => rfl, by simp⟩

theorem stopAt_end {x X : Rn} {i : Nat} (h : StopAt x X i) (h0 : 0 ≤ x.want.grace) (hi : (i : Int) = x.want.grace + 2) : False := by
  rcases h with ⟨rfl, _⟩ | ⟨_, _, _, h, h2⟩
  · omega
  · have := h2 (by omega)
    omega

end Go.Proofs.Ytalnkbocfhhjkaa
