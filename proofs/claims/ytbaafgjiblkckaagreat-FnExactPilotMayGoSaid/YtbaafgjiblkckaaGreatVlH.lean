/-
  Small facts on texts.
-/
import Derived.Test.YtbaafgjiblkckaaGreatVlB
import Derived.WalkSmall
namespace Go.Proofs.YtbaafgjiblkckaaGreat
open Go.RowKit

theorem nil_of_size {s : ByteArray} (h : s.size = 0) : s.toList = [] := by
  rw [ByteArray.toList_eq]
  exact List.eq_nil_of_length_eq_zero (by simpa using h)
theorem size_of_nil {s : ByteArray} (h : s.toList = []) : s.size = 0 := by
  rw [ByteArray.toList_eq] at h
  have := congrArg List.length h
  simpa using this
theorem size_of_empty {s : ByteArray} (h : s.toList.isEmpty = true) : s.size = 0 := size_of_nil (by simpa using h)

theorem ne_nil_of_size {s : ByteArray} (h : s.size ≠ 0) : ¬ s.toList = [] := fun e => h (size_of_nil e)
theorem ne_empty_of_size {s : ByteArray} (h : s.size ≠ 0) : s.toList.isEmpty = false := by
  cases e : s.toList.isEmpty with
  | false => rfl
  | true => exact absurd (size_of_empty e) h

end Go.Proofs.YtbaafgjiblkckaaGreat
