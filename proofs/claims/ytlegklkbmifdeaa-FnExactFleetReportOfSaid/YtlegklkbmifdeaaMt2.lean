/-
  A want looked at alone, both sides' parts. Made by mkmt2.py.
-/
import Derived.Test.YtlegklkbmifdeaaMt1
namespace Go.Proofs.Ytlegklkbmifdeaa
open Go.RowKit

set_option maxHeartbeats 2000000 in
theorem want10_any (x : Wnt) (w : World) (z0 : x.copy.size ≤ maxLen) (z2 : x.hold.size ≤ maxLen) :
    Calls Try.prog 54 #[.agg #[.string x.copy, .int .i64 x.version, .string x.hold, .int .i64 x.pull, .int .i64 x.start, .int .i64 x.dies, .int .i64 x.grace]] w fun e w' => e = .returned (.bool (wnB x)) ∧ Below w.heap.size w w' := by
  by_cases hh : x.hold.toList = []
  · have HH : Hid ((x.hold.toList == []) = true) := by show _ = _; simp [hh]
    go_enter Try.func54, Try.ntmps54
    go_wp2_with fail
    refine (name10_any x.copy _ z0).mono ?_
    rintro e w1 ⟨rfl, rfl⟩
    cases h0 : nmB x.copy with
    | false =>
      go_wp2_with fail
      go_ret
      exact ⟨ret_bool (by unfold wnB; rw [h0]; simp), by go_grown⟩
    | true =>
      go_wp2_with fail
      refine (in10_any x.version 1 1000000 _).mono ?_
      rintro e w2 ⟨rfl, rfl⟩
      cases h1 : inR x.version 1 1000000 with
      | false =>
        go_wp2_with fail
        go_ret
        exact ⟨ret_bool (by unfold wnB; rw [h0, h1]; simp), by go_grown⟩
      | true =>
        go_wp2_with fail
        refine (in10_any x.pull 0 100 _).mono ?_
        rintro e w4 ⟨rfl, rfl⟩
        cases h3 : inR x.pull 0 100 with
        | false =>
          go_wp2_with fail
          go_ret
          exact ⟨ret_bool (by unfold wnB; rw [h0, h1, HH.out, h3]; simp), by go_grown⟩
        | true =>
          go_wp2_with fail
          refine (in10_any x.start 0 100 _).mono ?_
          rintro e w5 ⟨rfl, rfl⟩
          cases h4 : inR x.start 0 100 with
          | false =>
            go_wp2_with fail
            go_ret
            exact ⟨ret_bool (by unfold wnB; rw [h0, h1, HH.out, h3, h4]; simp), by go_grown⟩
          | true =>
            go_wp2_with fail
            refine (in10_any x.dies 0 100 _).mono ?_
            rintro e w6 ⟨rfl, rfl⟩
            cases h5 : inR x.dies 0 100 with
            | false =>
              go_wp2_with fail
              go_ret
              exact ⟨ret_bool (by unfold wnB; rw [h0, h1, HH.out, h3, h4, h5]; simp), by go_grown⟩
            | true =>
              go_wp2_with fail
              refine (in10_any x.grace 0 100 _).mono ?_
              rintro e w7 ⟨rfl, rfl⟩
              cases h6 : inR x.grace 0 100 with
              | false =>
                go_wp2_with fail
                go_ret
                exact ⟨ret_bool (by unfold wnB; rw [h0, h1, HH.out, h3, h4, h5, h6]; simp), by go_grown⟩
              | true =>
                go_wp2_with fail
                go_ret
                exact ⟨ret_bool (by unfold wnB; rw [h0, h1, HH.out, h3, h4, h5, h6]; rfl), by go_grown⟩
  · have HH : Hid ((x.hold.toList == []) = false) := by show _ = _; simp [hh]
    go_enter Try.func54, Try.ntmps54
    go_wp2_with fail
    refine (name10_any x.copy _ z0).mono ?_
    rintro e w1 ⟨rfl, rfl⟩
    cases h0 : nmB x.copy with
    | false =>
      go_wp2_with fail
      go_ret
      exact ⟨ret_bool (by unfold wnB; rw [h0]; simp), by go_grown⟩
    | true =>
      go_wp2_with fail
      refine (in10_any x.version 1 1000000 _).mono ?_
      rintro e w2 ⟨rfl, rfl⟩
      cases h1 : inR x.version 1 1000000 with
      | false =>
        go_wp2_with fail
        go_ret
        exact ⟨ret_bool (by unfold wnB; rw [h0, h1]; simp), by go_grown⟩
      | true =>
        go_wp2_with fail
        refine (hold10_any x.hold _ z2).mono ?_
        rintro e w3 ⟨rfl, rfl⟩
        cases h2 : hdB x.hold with
        | false =>
          go_wp2_with fail
          go_ret
          exact ⟨ret_bool (by unfold wnB; rw [h0, h1, HH.out, h2]; simp), by go_grown⟩
        | true =>
          go_wp2_with fail
          refine (in10_any x.pull 0 100 _).mono ?_
          rintro e w4 ⟨rfl, rfl⟩
          cases h3 : inR x.pull 0 100 with
          | false =>
            go_wp2_with fail
            go_ret
            exact ⟨ret_bool (by unfold wnB; rw [h0, h1, HH.out, h2, h3]; simp), by go_grown⟩
          | true =>
            go_wp2_with fail
            refine (in10_any x.start 0 100 _).mono ?_
            rintro e w5 ⟨rfl, rfl⟩
            cases h4 : inR x.start 0 100 with
            | false =>
              go_wp2_with fail
              go_ret
              exact ⟨ret_bool (by unfold wnB; rw [h0, h1, HH.out, h2, h3, h4]; simp), by go_grown⟩
            | true =>
              go_wp2_with fail
              refine (in10_any x.dies 0 100 _).mono ?_
              rintro e w6 ⟨rfl, rfl⟩
              cases h5 : inR x.dies 0 100 with
              | false =>
                go_wp2_with fail
                go_ret
                exact ⟨ret_bool (by unfold wnB; rw [h0, h1, HH.out, h2, h3, h4, h5]; simp), by go_grown⟩
              | true =>
                go_wp2_with fail
                refine (in10_any x.grace 0 100 _).mono ?_
                rintro e w7 ⟨rfl, rfl⟩
                cases h6 : inR x.grace 0 100 with
                | false =>
                  go_wp2_with fail
                  go_ret
                  exact ⟨ret_bool (by unfold wnB; rw [h0, h1, HH.out, h2, h3, h4, h5, h6]; simp), by go_grown⟩
                | true =>
                  go_wp2_with fail
                  go_ret
                  exact ⟨ret_bool (by unfold wnB; rw [h0, h1, HH.out, h2, h3, h4, h5, h6]; rfl), by go_grown⟩

set_option maxHeartbeats 1000000 in
theorem mcopyOk_any (x : Wnt) (w : World) (z0 : x.copy.size ≤ maxLen) :
    Calls Try.prog 99 #[.agg #[.string x.copy, .int .i64 x.version, .string x.hold, .int .i64 x.pull, .int .i64 x.start, .int .i64 x.dies, .int .i64 x.grace]] w fun e w' => e = .returned (.bool (nmB x.copy)) ∧ Below w.heap.size w w' := by
  go_enter Try.func99, Try.ntmps99
  go_wp2_with fail
  refine (mname_any x.copy _ z0).mono ?_
  rintro e w1 ⟨rfl, rfl⟩
  go_wp2_with fail
  go_ret
  exact ⟨rfl, by go_grown⟩

set_option maxHeartbeats 1000000 in
theorem mversionOk_any (x : Wnt) (w : World) :
    Calls Try.prog 100 #[.agg #[.string x.copy, .int .i64 x.version, .string x.hold, .int .i64 x.pull, .int .i64 x.start, .int .i64 x.dies, .int .i64 x.grace]] w fun e w' => e = .returned (.bool (inR x.version 1 1000000)) ∧ Below w.heap.size w w' := by
  go_enter Try.func100, Try.ntmps100
  go_wp2_with fail
  refine (isIn_any x.version 1 1000000 _).mono ?_
  rintro e w1 ⟨rfl, rfl⟩
  go_wp2_with fail
  go_ret
  exact ⟨rfl, by go_grown⟩

set_option maxHeartbeats 1000000 in
theorem mholdOk_any (x : Wnt) (w : World) (z2 : x.hold.size ≤ maxLen) :
    Calls Try.prog 101 #[.agg #[.string x.copy, .int .i64 x.version, .string x.hold, .int .i64 x.pull, .int .i64 x.start, .int .i64 x.dies, .int .i64 x.grace]] w fun e w' => e = .returned (.bool (x.hold.toList == [] || hdB x.hold)) ∧ Below w.heap.size w w' := by
  by_cases hh : x.hold.toList = []
  · have HH : Hid ((x.hold.toList == []) = true) := by show _ = _; simp [hh]
    go_enter Try.func101, Try.ntmps101
    go_wp2_with fail
    go_ret
    exact ⟨ret_bool (by rw [HH.out]; rfl), by go_grown⟩
  · have HH : Hid ((x.hold.toList == []) = false) := by show _ = _; simp [hh]
    go_enter Try.func101, Try.ntmps101
    go_wp2_with fail
    refine (mhold_any x.hold _ z2).mono ?_
    rintro e w1 ⟨rfl, rfl⟩
    go_wp2_with fail
    go_ret
    exact ⟨ret_bool (by rw [HH.out]; simp [hh]), by go_grown⟩

/-- the ticks of a want -/
def tkB (x : Wnt) : Bool := inR x.pull 0 100 && inR x.start 0 100 && inR x.dies 0 100 && inR x.grace 0 100

theorem wnB_parts (x : Wnt) : wnB x = (nmB x.copy && (inR x.version 1 1000000 && ((x.hold.toList == [] || hdB x.hold) && tkB x))) := by
  unfold wnB tkB
  simp only [Bool.and_assoc]

set_option maxHeartbeats 1000000 in
theorem mticksOk_any (x : Wnt) (w : World) :
    Calls Try.prog 102 #[.agg #[.string x.copy, .int .i64 x.version, .string x.hold, .int .i64 x.pull, .int .i64 x.start, .int .i64 x.dies, .int .i64 x.grace]] w fun e w' => e = .returned (.bool (tkB x)) ∧ Below w.heap.size w w' := by
  go_enter Try.func102, Try.ntmps102
  go_wp2_with fail
  refine (isTicks_any x.pull _).mono ?_
  rintro e w1 ⟨rfl, rfl⟩
  cases h0 : inR x.pull 0 100 with
  | false =>
    go_wp2_with fail
    go_ret
    exact ⟨ret_bool (by unfold tkB; rw [h0]; simp), by go_grown⟩
  | true =>
    go_wp2_with fail
    refine (isTicks_any x.start _).mono ?_
    rintro e w2 ⟨rfl, rfl⟩
    cases h1 : inR x.start 0 100 with
    | false =>
      go_wp2_with fail
      go_ret
      exact ⟨ret_bool (by unfold tkB; rw [h0, h1]; simp), by go_grown⟩
    | true =>
      go_wp2_with fail
      refine (isTicks_any x.dies _).mono ?_
      rintro e w3 ⟨rfl, rfl⟩
      cases h2 : inR x.dies 0 100 with
      | false =>
        go_wp2_with fail
        go_ret
        exact ⟨ret_bool (by unfold tkB; rw [h0, h1, h2]; simp), by go_grown⟩
      | true =>
        go_wp2_with fail
        refine (isTicks_any x.grace _).mono ?_
        rintro e w4 ⟨rfl, rfl⟩
        cases h3 : inR x.grace 0 100 with
        | false =>
          go_wp2_with fail
          go_ret
          exact ⟨ret_bool (by unfold tkB; rw [h0, h1, h2, h3]; simp), by go_grown⟩
        | true =>
          go_wp2_with fail
          go_ret
          exact ⟨ret_bool (by unfold tkB; rw [h0, h1, h2, h3]; rfl), by go_grown⟩

end Go.Proofs.Ytlegklkbmifdeaa
