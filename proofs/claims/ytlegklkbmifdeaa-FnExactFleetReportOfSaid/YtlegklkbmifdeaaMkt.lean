/-
  Walk: a number as a text.
-/
import Derived.Test.YtlegklkbmifdeaaShp
import Derived.Laws.IdiomStrings
namespace Go.Proofs.Ytlegklkbmifdeaa
open Go.RowKit

def dgOf (j : Nat) : UInt8 := UInt8.ofNat (48 + j % 10)
def mtGo : Nat → Nat → ByteArray → ByteArray
  | 0, _, s => s
  | f + 1, j, s => if j = 0 then s else mtGo f (j / 10) (⟨#[dgOf j]⟩ ++ s)
def mtOf (k : Nat) : ByteArray := ⟨#[109]⟩ ++ mtGo 3000 k ⟨#[]⟩

theorem mtGo_end (f : Nat) (s : ByteArray) : mtGo f 0 s = s := by
  cases f with
  | zero => rfl
  | succ f => simp [mtGo]

theorem dg_nat (j : Nat) : ((dgOf j).toNat : Int) = 48 + (j : Int) % 10 := by
  have h : (dgOf j).toNat = 48 + j % 10 := by
    unfold dgOf
    rw [UInt8.toNat_ofNat']
    omega
  rw [h]
  omega

set_option maxHeartbeats 1000000 in
set_option maxRecDepth 100000 in
theorem markText_any (k : Nat) (w : World) (h0 : 0 < k) (h1 : k ≤ 1073741824) :
    Calls Try.prog 53 #[.int .i64 k] w fun e w' => e = .returned (.string (mtOf k)) ∧ Below w.heap.size w w' := by
  have HR : Hid (mtOf k = ⟨#[109]⟩ ++ mtGo 3000 k ⟨#[]⟩) := rfl
  generalize mtOf k = M at *
  go_enter Try.func53, Try.ntmps53
  go_wp2_with fail
  go_loopw [0, 3] (fun v o wr => ∃ (j f : Nat) (s : ByteArray), v = .int .i64 j ∧ o = .string s ∧ j ≤ 1073741824 ∧ Hid ((∃ e, j < 10 ^ e ∧ e ≤ f) ∧ s.size + f = 3000 ∧ mtGo f j s = mtGo 3000 k ⟨#[]⟩) ∧ Below w.heap.size w wr) (fun v _ _ => (intOf v).toNat)
  case atStart => exact ⟨k, 3000, _, rfl, rfl, by omega, ⟨⟨10, by omega, by omega⟩, rfl, rfl⟩, Below.refl _ _⟩
  case round =>
    obtain ⟨j, f, s, rfl, rfl, hj, HF, hbel⟩ := hrel
    by_cases hp : 0 < j
    · have hcv : (convert 98 9 (.slice (some ⟨wr.heap.size, 0, none⟩) 1 1)).run Try.prog (wr.alloc (Obj.cells #[.int .u8 (48 + (j : Int) % 10)] 5)) = .ok (.string ⟨#[dgOf j]⟩) (wr.alloc (Obj.cells #[.int .u8 (48 + (j : Int) % 10)] 5)) :=
        run_convert_bytes_back _ _ _ 5 ⟨wr.heap.size, 0, none⟩ 1 [dgOf j] Try.underlying98 Try.underlying5 Try.underlying9 (fun i hi => by
          have : i = 0 := by simpa using hi
          subst this
          rw [← dg_nat, Addr.add_mid, World.cell?_alloc_at _ _ _ _ (by rfl)]
          rfl)
      obtain ⟨g, rfl⟩ : ∃ g, f = g + 1 := by
        obtain ⟨e, he, hf⟩ := HF.out.1
        cases e with
        | zero => simp at he; omega
        | succ e => exact ⟨f - 1, by omega⟩
      have HN : Hid ((∃ e, j / 10 < 10 ^ e ∧ e ≤ g) ∧ ((⟨#[dgOf j]⟩ : ByteArray) ++ s).size + g = 3000 ∧ mtGo g (j / 10) (⟨#[dgOf j]⟩ ++ s) = mtGo 3000 k ⟨#[]⟩) := by
        obtain ⟨a, b, c⟩ := HF.out
        refine ⟨?_, ?_, ?_⟩
        · obtain ⟨e, he, hf⟩ := a
          cases e with
          | zero => simp at he; omega
          | succ e => exact ⟨e, by rw [Nat.pow_succ] at he; omega, by omega⟩
        · rw [ByteArray.size_append]
          show 1 + _ + _ = _
          omega
        · rw [← c]
          simp only [mtGo]
          rw [if_neg (by omega)]
      have hss : s.size ≤ 3000 := by have := HF.out.2.1; omega
      clear HF
      go_wp2_with fail
      go_roundw
      case rel => exact ⟨j / 10, g, _, by congr 1, rfl, by omega, HN, hbel.alloc hbel.size _⟩
      case measure => simp [intOf]; omega
    · have hj0 : j = 0 := by omega
      subst hj0
      have HS : Hid (M = ⟨#[109]⟩ ++ s) := by
        show _ = _
        rw [HR.out, ← HF.out.2.2, mtGo_end]
      have hss : s.size ≤ 3000 := by have := HF.out.2.1; omega
      clear HF
      go_wp2_with fail
      go_ret
      exact ⟨by rw [HS.out]; rfl, hbel⟩

end Go.Proofs.Ytlegklkbmifdeaa
