/-
  A run looked at alone, both sides. Made by mkmt4.py.
-/
import Derived.Test.YtlegklkbmifdeaaMt3
namespace Go.Proofs.Ytlegklkbmifdeaa
open Go.RowKit

/-- it has its hold for long enough, or needs none -/
def lsB (x : Rn) (c : Int) : Bool := (x.want.hold.toList == []) || decide (wrap64 (c + 4) ≤ x.until_)

/-- so many ticks may be left -/
def tkS (s l : Int) : Bool := inR l 0 100 && (!decide (s = 2) || decide (l = 0))

/-- its lease can be -/
def utB (x : Rn) : Bool := inR x.until_ 0 1000016 && (!(x.want.hold.toList == []) || decide (x.until_ = 0))

/-- a run that is ok -/
def roB (x : Rn) (c : Int) : Bool := wnB x.want && (inR x.state 1 6 && (tkS x.state x.left && (inR x.falls 0 1000 && (utB x && (!alB x.state || lsB x c)))))

theorem isz_mRun : (Try.prog.info? 107).map (·.size) = some 11 := by kernel_rfl

set_option maxHeartbeats 1000000 in
theorem known_any (s : Int) (w : World) :
    Calls Try.prog 89 #[.int .i64 s] w fun e w' => e = .returned (.bool (inR s 1 6)) ∧ w' = w := by
  by_cases h1 : 1 ≤ s
  · by_cases h2 : s ≤ 6
    · have HC : Hid (inR s 1 6 = true) := inR_yes h1 h2
      go_enter Try.func89, Try.ntmps89
      go_wp2_with fail
      go_ret
      exact ⟨ret_bool HC.out.symm, rfl⟩
    · have h2' : 6 < s := by omega
      have HC : Hid (inR s 1 6 = false) := inR_hi h2'
      clear h2
      go_enter Try.func89, Try.ntmps89
      go_wp2_with fail
      go_ret
      exact ⟨ret_bool (by rw [HC.out]; simp; omega), rfl⟩
  · have h1' : s < 1 := by omega
    have HC : Hid (inR s 1 6 = false) := inR_lo h1'
    clear h1
    go_enter Try.func89, Try.ntmps89
    go_wp2_with fail
    go_ret
    exact ⟨ret_bool HC.out.symm, rfl⟩

set_option maxHeartbeats 1000000 in
theorem takes_any (s l : Int) (w : World) :
    Calls Try.prog 90 #[.int .i64 s, .int .i64 l] w fun e w' => e = .returned (.bool (tkS s l)) ∧ w' = w := by
  have HC : Hid (tkS s l = (inR l 0 100 && (!decide (s = 2) || decide (l = 0)))) := rfl
  generalize tkS s l = D at *
  go_enter Try.func90, Try.ntmps90
  go_wp2_with fail
  refine (isTicks_any l _).mono ?_
  rintro e w1 ⟨rfl, rfl⟩
  cases h : inR l 0 100 with
  | false =>
    rw [h] at HC
    go_wp2_with fail
    go_ret
    exact ⟨ret_bool HC.out.symm, rfl⟩
  | true =>
    rw [h] at HC
    by_cases h2 : s = 2
    · subst h2
      go_wp2_with fail
      go_ret
      exact ⟨ret_bool (by rw [HC.out]; simp; rfl), rfl⟩
    · go_wp2_with fail
      go_ret
      exact ⟨ret_bool (by rw [HC.out]; simp [h2]), rfl⟩

set_option maxHeartbeats 1000000 in
theorem leased11_any (x : Rn) (c : Int) (w : World) :
    Calls Try.prog 64 #[.agg #[.string x.want.copy, .int .i64 x.want.version, .string x.want.hold, .int .i64 x.want.pull, .int .i64 x.want.start, .int .i64 x.want.dies, .int .i64 x.want.grace, .int .i64 x.state, .int .i64 x.left, .int .i64 x.falls, .int .i64 x.until_], .int .i64 c] w fun e w' => e = .returned (.bool (lsB x c)) ∧ Below w.heap.size w w' := by
  have HC : Hid (lsB x c = ((x.want.hold.toList == []) || decide (wrap64 (c + 4) ≤ x.until_))) := rfl
  generalize lsB x c = D at *
  by_cases hh : x.want.hold.toList = []
  · have HD : Hid (D = true) := by have := HC.out; show _ = _; simpa [hh] using this
    go_enter Try.func64, Try.ntmps64
    go_wp2_with fail
    go_ret
    exact ⟨ret_bool HD.out.symm, by go_grown⟩
  · have HD : Hid (D = decide (wrap64 (c + 4) ≤ x.until_)) := by
      have := HC.out
      rw [show (x.want.hold.toList == []) = false by simp [hh], Bool.false_or] at this
      exact this
    go_enter Try.func64, Try.ntmps64
    go_wp2_with fail
    go_ret
    exact ⟨ret_bool (by rw [HD.out]; simp [hh]), by go_grown⟩

set_option maxHeartbeats 1000000 in
theorem rleased_any (x : Rn) (c : Int) (w : World) :
    Calls Try.prog 92 #[.agg #[.string x.want.copy, .int .i64 x.want.version, .string x.want.hold, .int .i64 x.want.pull, .int .i64 x.want.start, .int .i64 x.want.dies, .int .i64 x.want.grace, .int .i64 x.state, .int .i64 x.left, .int .i64 x.falls, .int .i64 x.until_], .int .i64 c] w fun e w' => e = .returned (.bool (lsB x c)) ∧ Below w.heap.size w w' := by
  have HC : Hid (lsB x c = ((x.want.hold.toList == []) || decide (wrap64 (c + 4) ≤ x.until_))) := rfl
  generalize lsB x c = D at *
  by_cases hh : x.want.hold.toList = []
  · have HD : Hid (D = true) := by have := HC.out; show _ = _; simpa [hh] using this
    go_enter Try.func92, Try.ntmps92
    go_wp2_with fail
    go_ret
    exact ⟨ret_bool HD.out.symm, by go_grown⟩
  · have HD : Hid (D = decide (wrap64 (c + 4) ≤ x.until_)) := by
      have := HC.out
      rw [show (x.want.hold.toList == []) = false by simp [hh], Bool.false_or] at this
      exact this
    go_enter Try.func92, Try.ntmps92
    go_wp2_with fail
    go_ret
    exact ⟨ret_bool (by rw [HD.out]; simp [hh]), by go_grown⟩

set_option maxHeartbeats 1000000 in
theorem untilOk_any (x : Rn) (w : World) :
    Calls Try.prog 91 #[.agg #[.string x.want.copy, .int .i64 x.want.version, .string x.want.hold, .int .i64 x.want.pull, .int .i64 x.want.start, .int .i64 x.want.dies, .int .i64 x.want.grace, .int .i64 x.state, .int .i64 x.left, .int .i64 x.falls, .int .i64 x.until_]] w fun e w' => e = .returned (.bool (utB x)) ∧ Below w.heap.size w w' := by
  have HC : Hid (utB x = (inR x.until_ 0 1000016 && (!(x.want.hold.toList == []) || decide (x.until_ = 0)))) := rfl
  generalize utB x = D at *
  go_enter Try.func91, Try.ntmps91
  go_wp2_with fail
  refine (isIn_any x.until_ 0 1000016 _).mono ?_
  rintro e w1 ⟨rfl, rfl⟩
  cases h : inR x.until_ 0 1000016 with
  | false =>
    rw [h] at HC
    go_wp2_with fail
    go_ret
    exact ⟨ret_bool HC.out.symm, by go_grown⟩
  | true =>
    rw [h] at HC
    by_cases hh : x.want.hold.toList = []
    · go_wp2_with fail
      go_ret
      exact ⟨ret_bool (by rw [HC.out]; simp [hh]; rfl), by go_grown⟩
    · go_wp2_with fail
      go_ret
      exact ⟨ret_bool (by rw [HC.out]; simp [hh]), by go_grown⟩

set_option maxHeartbeats 2000000 in
theorem rok_any (x : Rn) (c : Int) (w : World) (z0 : x.want.copy.size ≤ maxLen) (z2 : x.want.hold.size ≤ maxLen) :
    Calls Try.prog 78 #[.agg #[.string x.want.copy, .int .i64 x.want.version, .string x.want.hold, .int .i64 x.want.pull, .int .i64 x.want.start, .int .i64 x.want.dies, .int .i64 x.want.grace, .int .i64 x.state, .int .i64 x.left, .int .i64 x.falls, .int .i64 x.until_], .int .i64 c] w fun e w' => e = .returned (.bool (roB x c)) ∧ Below w.heap.size w w' := by
  have HX0 : Hid (Blk w.heap.size #[.string x.want.copy, .int .i64 x.want.version, .string x.want.hold, .int .i64 x.want.pull, .int .i64 x.want.start, .int .i64 x.want.dies, .int .i64 x.want.grace, .int .i64 x.state, .int .i64 x.left, .int .i64 x.falls, .int .i64 x.until_] 107 (w.alloc (.cells #[.string x.want.copy, .int .i64 x.want.version, .string x.want.hold, .int .i64 x.want.pull, .int .i64 x.want.start, .int .i64 x.want.dies, .int .i64 x.want.grace, .int .i64 x.state, .int .i64 x.left, .int .i64 x.falls, .int .i64 x.until_] 107))) := Blk.alloc _ _ _
  have HC : Hid (roB x c = (wnB x.want && (inR x.state 1 6 && (tkS x.state x.left && (inR x.falls 0 1000 && (utB x && (!alB x.state || lsB x c))))))) := rfl
  generalize roB x c = D at *
  go_enter Try.func78, Try.ntmps78
  go_wp2_with fail
  refine (mwantOk_any x.want _ z0 z2).mono ?_
  rintro e w1 ⟨rfl, hb1⟩
  have HX1 := Hid.intro (HX0.out.below hb1 HX0.out.lt)
  have hB1 : Below w.heap.size w w1 := (show Below w.heap.size w _ by go_grown).trans (hb1.mono (by simp))
  clear hb1 HX0
  have k0 : w1.cell? ⟨w.heap.size, 0, none⟩ = some (.string x.want.copy) := HX1.out.cell rfl
  have k1 : w1.cell? ⟨w.heap.size, 1, none⟩ = some (.int .i64 x.want.version) := HX1.out.cell rfl
  have k2 : w1.cell? ⟨w.heap.size, 2, none⟩ = some (.string x.want.hold) := HX1.out.cell rfl
  have k3 : w1.cell? ⟨w.heap.size, 3, none⟩ = some (.int .i64 x.want.pull) := HX1.out.cell rfl
  have k4 : w1.cell? ⟨w.heap.size, 4, none⟩ = some (.int .i64 x.want.start) := HX1.out.cell rfl
  have k5 : w1.cell? ⟨w.heap.size, 5, none⟩ = some (.int .i64 x.want.dies) := HX1.out.cell rfl
  have k6 : w1.cell? ⟨w.heap.size, 6, none⟩ = some (.int .i64 x.want.grace) := HX1.out.cell rfl
  have k7 : w1.cell? ⟨w.heap.size, 7, none⟩ = some (.int .i64 x.state) := HX1.out.cell rfl
  have k8 : w1.cell? ⟨w.heap.size, 8, none⟩ = some (.int .i64 x.left) := HX1.out.cell rfl
  have k9 : w1.cell? ⟨w.heap.size, 9, none⟩ = some (.int .i64 x.falls) := HX1.out.cell rfl
  have k10 : w1.cell? ⟨w.heap.size, 10, none⟩ = some (.int .i64 x.until_) := HX1.out.cell rfl
  cases h0 : wnB x.want with
  | false =>
    rw [h0] at HC
    go_wp2_with fail
    go_ret
    exact ⟨ret_bool (by rw [HC.out]; simp), hB1⟩
  | true =>
    rw [h0] at HC
    clear h0
    go_wp2_with fail
    refine (known_any x.state _).mono ?_
    rintro e _ ⟨rfl, rfl⟩
    cases h1 : inR x.state 1 6 with
    | false =>
      rw [h1] at HC
      go_wp2_with fail
      go_ret
      exact ⟨ret_bool (by rw [HC.out]; simp), hB1⟩
    | true =>
      rw [h1] at HC
      clear h1
      go_wp2_with fail
      refine (takes_any x.state x.left _).mono ?_
      rintro e _ ⟨rfl, rfl⟩
      cases h2 : tkS x.state x.left with
      | false =>
        rw [h2] at HC
        go_wp2_with fail
        go_ret
        exact ⟨ret_bool (by rw [HC.out]; simp), hB1⟩
      | true =>
        rw [h2] at HC
        clear h2
        go_wp2_with fail
        refine (isIn_any x.falls 0 1000 _).mono ?_
        rintro e _ ⟨rfl, rfl⟩
        cases h3 : inR x.falls 0 1000 with
        | false =>
          rw [h3] at HC
          go_wp2_with fail
          go_ret
          exact ⟨ret_bool (by rw [HC.out]; simp), hB1⟩
        | true =>
          rw [h3] at HC
          clear h3
          go_wp2_with fail
          refine (untilOk_any x _).mono ?_
          rintro e w2 ⟨rfl, hb2⟩
          have HX2 := Hid.intro (HX1.out.below hb2 HX1.out.lt)
          have hB2 := hB1.trans (hb2.mono hB1.size)
          clear hb2 hB1 HX1 k0 k1 k2 k3 k4 k5 k6 k7 k8 k9 k10
          have k0 : w2.cell? ⟨w.heap.size, 0, none⟩ = some (.string x.want.copy) := HX2.out.cell rfl
          have k1 : w2.cell? ⟨w.heap.size, 1, none⟩ = some (.int .i64 x.want.version) := HX2.out.cell rfl
          have k2 : w2.cell? ⟨w.heap.size, 2, none⟩ = some (.string x.want.hold) := HX2.out.cell rfl
          have k3 : w2.cell? ⟨w.heap.size, 3, none⟩ = some (.int .i64 x.want.pull) := HX2.out.cell rfl
          have k4 : w2.cell? ⟨w.heap.size, 4, none⟩ = some (.int .i64 x.want.start) := HX2.out.cell rfl
          have k5 : w2.cell? ⟨w.heap.size, 5, none⟩ = some (.int .i64 x.want.dies) := HX2.out.cell rfl
          have k6 : w2.cell? ⟨w.heap.size, 6, none⟩ = some (.int .i64 x.want.grace) := HX2.out.cell rfl
          have k7 : w2.cell? ⟨w.heap.size, 7, none⟩ = some (.int .i64 x.state) := HX2.out.cell rfl
          have k8 : w2.cell? ⟨w.heap.size, 8, none⟩ = some (.int .i64 x.left) := HX2.out.cell rfl
          have k9 : w2.cell? ⟨w.heap.size, 9, none⟩ = some (.int .i64 x.falls) := HX2.out.cell rfl
          have k10 : w2.cell? ⟨w.heap.size, 10, none⟩ = some (.int .i64 x.until_) := HX2.out.cell rfl
          cases h4 : utB x with
          | false =>
            rw [h4] at HC
            go_wp2_with fail
            go_ret
            exact ⟨ret_bool (by rw [HC.out]; simp), hB2⟩
          | true =>
            rw [h4] at HC
            clear h4
            go_wp2_with fail
            refine (ralive_any x _).mono ?_
            rintro e w3 ⟨rfl, hb3⟩
            have HX3 := Hid.intro (HX2.out.below hb3 HX2.out.lt)
            have hB3 := hB2.trans (hb3.mono hB2.size)
            clear hb3 hB2 HX2 k0 k1 k2 k3 k4 k5 k6 k7 k8 k9 k10
            have k0 : w3.cell? ⟨w.heap.size, 0, none⟩ = some (.string x.want.copy) := HX3.out.cell rfl
            have k1 : w3.cell? ⟨w.heap.size, 1, none⟩ = some (.int .i64 x.want.version) := HX3.out.cell rfl
            have k2 : w3.cell? ⟨w.heap.size, 2, none⟩ = some (.string x.want.hold) := HX3.out.cell rfl
            have k3 : w3.cell? ⟨w.heap.size, 3, none⟩ = some (.int .i64 x.want.pull) := HX3.out.cell rfl
            have k4 : w3.cell? ⟨w.heap.size, 4, none⟩ = some (.int .i64 x.want.start) := HX3.out.cell rfl
            have k5 : w3.cell? ⟨w.heap.size, 5, none⟩ = some (.int .i64 x.want.dies) := HX3.out.cell rfl
            have k6 : w3.cell? ⟨w.heap.size, 6, none⟩ = some (.int .i64 x.want.grace) := HX3.out.cell rfl
            have k7 : w3.cell? ⟨w.heap.size, 7, none⟩ = some (.int .i64 x.state) := HX3.out.cell rfl
            have k8 : w3.cell? ⟨w.heap.size, 8, none⟩ = some (.int .i64 x.left) := HX3.out.cell rfl
            have k9 : w3.cell? ⟨w.heap.size, 9, none⟩ = some (.int .i64 x.falls) := HX3.out.cell rfl
            have k10 : w3.cell? ⟨w.heap.size, 10, none⟩ = some (.int .i64 x.until_) := HX3.out.cell rfl
            cases h5 : alB x.state with
            | false =>
              rw [h5] at HC
              go_wp2_with fail
              go_ret
              exact ⟨ret_bool (by rw [HC.out]; simp), hB3⟩
            | true =>
              rw [h5] at HC
              clear h5
              go_wp2_with fail
              refine (rleased_any x c _).mono ?_
              rintro e w4 ⟨rfl, hb4⟩
              have hB4 := hB3.trans (hb4.mono hB3.size)
              clear hb4 hB3 HX3
              generalize lsB x c = E at *
              go_wp2_with fail
              go_ret
              exact ⟨ret_bool (by rw [HC.out]; simp), hB4⟩

set_option maxHeartbeats 2000000 in
set_option maxRecDepth 100000 in
theorem runOk11_any (x : Rn) (c : Int) (w : World) (z0 : x.want.copy.size ≤ maxLen) (z2 : x.want.hold.size ≤ maxLen) :
    Calls Try.prog 55 #[.agg #[.string x.want.copy, .int .i64 x.want.version, .string x.want.hold, .int .i64 x.want.pull, .int .i64 x.want.start, .int .i64 x.want.dies, .int .i64 x.want.grace, .int .i64 x.state, .int .i64 x.left, .int .i64 x.falls, .int .i64 x.until_], .int .i64 c] w fun e w' => e = .returned (.bool (roB x c)) ∧ Below w.heap.size w w' := by
  have HX0 : Hid (Blk w.heap.size #[.string x.want.copy, .int .i64 x.want.version, .string x.want.hold, .int .i64 x.want.pull, .int .i64 x.want.start, .int .i64 x.want.dies, .int .i64 x.want.grace, .int .i64 x.state, .int .i64 x.left, .int .i64 x.falls, .int .i64 x.until_] 50 (w.alloc (.cells #[.string x.want.copy, .int .i64 x.want.version, .string x.want.hold, .int .i64 x.want.pull, .int .i64 x.want.start, .int .i64 x.want.dies, .int .i64 x.want.grace, .int .i64 x.state, .int .i64 x.left, .int .i64 x.falls, .int .i64 x.until_] 50))) := Blk.alloc _ _ _
  have HC : Hid (roB x c = (wnB x.want && (inR x.state 1 6 && ((inR x.left 0 100 && (!decide (x.state = 2) || decide (x.left = 0))) && (inR x.falls 0 1000 && ((inR x.until_ 0 1000016 && (!(x.want.hold.toList == []) || decide (x.until_ = 0))) && (!alB x.state || lsB x c))))))) := rfl
  generalize roB x c = D at *
  go_enter Try.func55, Try.ntmps55
  go_wp2_with fail
  refine (want10_any x.want _ z0 z2).mono ?_
  rintro e w1 ⟨rfl, hb1⟩
  have HX1 := Hid.intro (HX0.out.below hb1 HX0.out.lt)
  have hB1 : Below w.heap.size w w1 := (show Below w.heap.size w _ by go_grown).trans (hb1.mono (by simp))
  clear hb1 HX0
  have k0 : w1.cell? ⟨w.heap.size, 0, none⟩ = some (.string x.want.copy) := HX1.out.cell rfl
  have k1 : w1.cell? ⟨w.heap.size, 1, none⟩ = some (.int .i64 x.want.version) := HX1.out.cell rfl
  have k2 : w1.cell? ⟨w.heap.size, 2, none⟩ = some (.string x.want.hold) := HX1.out.cell rfl
  have k3 : w1.cell? ⟨w.heap.size, 3, none⟩ = some (.int .i64 x.want.pull) := HX1.out.cell rfl
  have k4 : w1.cell? ⟨w.heap.size, 4, none⟩ = some (.int .i64 x.want.start) := HX1.out.cell rfl
  have k5 : w1.cell? ⟨w.heap.size, 5, none⟩ = some (.int .i64 x.want.dies) := HX1.out.cell rfl
  have k6 : w1.cell? ⟨w.heap.size, 6, none⟩ = some (.int .i64 x.want.grace) := HX1.out.cell rfl
  have k7 : w1.cell? ⟨w.heap.size, 7, none⟩ = some (.int .i64 x.state) := HX1.out.cell rfl
  have k8 : w1.cell? ⟨w.heap.size, 8, none⟩ = some (.int .i64 x.left) := HX1.out.cell rfl
  have k9 : w1.cell? ⟨w.heap.size, 9, none⟩ = some (.int .i64 x.falls) := HX1.out.cell rfl
  have k10 : w1.cell? ⟨w.heap.size, 10, none⟩ = some (.int .i64 x.until_) := HX1.out.cell rfl
  cases h0 : wnB x.want with
  | false =>
    rw [h0] at HC
    go_wp2_with fail
    go_ret
    exact ⟨ret_bool (by rw [HC.out]; simp), hB1⟩
  | true =>
    rw [h0] at HC
    clear h0
    go_wp2_with fail
    refine (in10_any x.state 1 6 _).mono ?_
    rintro e _ ⟨rfl, rfl⟩
    cases h1 : inR x.state 1 6 with
    | false =>
      rw [h1] at HC
      go_wp2_with fail
      go_ret
      exact ⟨ret_bool (by rw [HC.out]; simp), hB1⟩
    | true =>
      rw [h1] at HC
      clear h1
      go_wp2_with fail
      refine (in10_any x.left 0 100 _).mono ?_
      rintro e _ ⟨rfl, rfl⟩
      cases h2 : inR x.left 0 100 with
      | false =>
        rw [h2] at HC
        go_wp2_with fail
        go_ret
        exact ⟨ret_bool (by rw [HC.out]; simp), hB1⟩
      | true =>
        rw [h2] at HC
        clear h2
        have main : (x.state = 2 ∧ ¬ x.left = 0) ∨ ¬ (x.state = 2 ∧ ¬ x.left = 0) := Classical.em _
        rcases main with ⟨s2, l0⟩ | hok
        · have HD : Hid (D = false) := by have := HC.out; show _ = _; simpa [s2, l0] using this
          go_wp2_with fail
          go_ret
          exact ⟨ret_bool HD.out.symm, hB1⟩
        have HD : Hid (D = (inR x.falls 0 1000 && ((inR x.until_ 0 1000016 && (!(x.want.hold.toList == []) || decide (x.until_ = 0))) && (!alB x.state || lsB x c)))) := by
          have := HC.out
          rw [show (!decide (x.state = 2) || decide (x.left = 0)) = true from by by_cases e : x.state = 2 <;> by_cases e2 : x.left = 0 <;> simp [e, e2] at hok ⊢] at this
          show _ = _
          simpa using this
        clear HC
        have HC := HD
        clear HD
        rcases (show ¬ x.state = 2 ∨ (x.state = 2 ∧ x.left = 0) by omega) with s2 | ⟨s2, l0⟩
        · skip
          go_wp2_with fail
          refine (in10_any x.falls 0 1000 _).mono ?_
          rintro e _ ⟨rfl, rfl⟩
          cases h3 : inR x.falls 0 1000 with
          | false =>
            rw [h3] at HC
            go_wp2_with fail
            go_ret
            exact ⟨ret_bool (by rw [HC.out]; simp), hB1⟩
          | true =>
            rw [h3] at HC
            clear h3
            go_upto_region 3 with fail
            clear s2 hok
            go_wp2_with fail
            refine (in10_any x.until_ 0 1000016 _).mono ?_
            rintro e _ ⟨rfl, rfl⟩
            cases h4 : inR x.until_ 0 1000016 with
            | false =>
              rw [h4] at HC
              go_wp2_with fail
              go_ret
              exact ⟨ret_bool (by rw [HC.out]; simp), hB1⟩
            | true =>
              rw [h4] at HC
              clear h4
              by_cases hu : x.want.hold.toList = [] ∧ ¬ x.until_ = 0
              · obtain ⟨hh, u0⟩ := hu
                have HD : Hid (D = false) := by have := HC.out; show _ = _; simpa [hh, u0] using this
                go_wp2_with fail
                go_ret
                exact ⟨ret_bool HD.out.symm, hB1⟩
              have HD : Hid (D = (!alB x.state || lsB x c)) := by
                have := HC.out
                rw [show (!(x.want.hold.toList == []) || decide (x.until_ = 0)) = true from by by_cases e : x.want.hold.toList = [] <;> by_cases e2 : x.until_ = 0 <;> simp [e, e2] at hu ⊢] at this
                show _ = _
                simpa using this
              clear HC
              have hcs : ¬ x.want.hold.toList = [] ∨ (x.want.hold.toList = [] ∧ x.until_ = 0) := by
                by_cases e : x.want.hold.toList = []
                · exact .inr ⟨e, Classical.byContradiction fun e2 => hu ⟨e, e2⟩⟩
                · exact .inl e
              clear hu
              rcases hcs with hh | ⟨hh, u0⟩
              · go_upto_region 5 with fail
                clear hh
                go_wp2_with fail
                refine (specAlive_any x _).mono ?_
                rintro e w3 ⟨rfl, hb3⟩
                have HX3 := Hid.intro (HX1.out.below hb3 HX1.out.lt)
                have hB3 := hB1.trans (hb3.mono hB1.size)
                clear hb3 hB1 HX1 k0 k1 k2 k3 k4 k5 k6 k7 k8 k9 k10
                have k0 : w3.cell? ⟨w.heap.size, 0, none⟩ = some (.string x.want.copy) := HX3.out.cell rfl
                have k1 : w3.cell? ⟨w.heap.size, 1, none⟩ = some (.int .i64 x.want.version) := HX3.out.cell rfl
                have k2 : w3.cell? ⟨w.heap.size, 2, none⟩ = some (.string x.want.hold) := HX3.out.cell rfl
                have k3 : w3.cell? ⟨w.heap.size, 3, none⟩ = some (.int .i64 x.want.pull) := HX3.out.cell rfl
                have k4 : w3.cell? ⟨w.heap.size, 4, none⟩ = some (.int .i64 x.want.start) := HX3.out.cell rfl
                have k5 : w3.cell? ⟨w.heap.size, 5, none⟩ = some (.int .i64 x.want.dies) := HX3.out.cell rfl
                have k6 : w3.cell? ⟨w.heap.size, 6, none⟩ = some (.int .i64 x.want.grace) := HX3.out.cell rfl
                have k7 : w3.cell? ⟨w.heap.size, 7, none⟩ = some (.int .i64 x.state) := HX3.out.cell rfl
                have k8 : w3.cell? ⟨w.heap.size, 8, none⟩ = some (.int .i64 x.left) := HX3.out.cell rfl
                have k9 : w3.cell? ⟨w.heap.size, 9, none⟩ = some (.int .i64 x.falls) := HX3.out.cell rfl
                have k10 : w3.cell? ⟨w.heap.size, 10, none⟩ = some (.int .i64 x.until_) := HX3.out.cell rfl
                cases h5 : alB x.state with
                | false =>
                  rw [h5] at HD
                  go_wp2_with fail
                  go_ret
                  exact ⟨ret_bool (by rw [HD.out]; simp), hB3⟩
                | true =>
                  rw [h5] at HD
                  clear h5
                  go_wp2_with fail
                  refine (leased11_any x c _).mono ?_
                  rintro e w4 ⟨rfl, hb4⟩
                  have hB4 := hB3.trans (hb4.mono hB3.size)
                  clear hb4 hB3 HX3
                  generalize lsB x c = E at *
                  go_wp2_with fail
                  go_ret
                  exact ⟨ret_bool (by rw [HD.out]; simp), hB4⟩
              · go_upto_region 5 with fail
                clear hh u0
                go_wp2_with fail
                refine (specAlive_any x _).mono ?_
                rintro e w3 ⟨rfl, hb3⟩
                have HX3 := Hid.intro (HX1.out.below hb3 HX1.out.lt)
                have hB3 := hB1.trans (hb3.mono hB1.size)
                clear hb3 hB1 HX1 k0 k1 k2 k3 k4 k5 k6 k7 k8 k9 k10
                have k0 : w3.cell? ⟨w.heap.size, 0, none⟩ = some (.string x.want.copy) := HX3.out.cell rfl
                have k1 : w3.cell? ⟨w.heap.size, 1, none⟩ = some (.int .i64 x.want.version) := HX3.out.cell rfl
                have k2 : w3.cell? ⟨w.heap.size, 2, none⟩ = some (.string x.want.hold) := HX3.out.cell rfl
                have k3 : w3.cell? ⟨w.heap.size, 3, none⟩ = some (.int .i64 x.want.pull) := HX3.out.cell rfl
                have k4 : w3.cell? ⟨w.heap.size, 4, none⟩ = some (.int .i64 x.want.start) := HX3.out.cell rfl
                have k5 : w3.cell? ⟨w.heap.size, 5, none⟩ = some (.int .i64 x.want.dies) := HX3.out.cell rfl
                have k6 : w3.cell? ⟨w.heap.size, 6, none⟩ = some (.int .i64 x.want.grace) := HX3.out.cell rfl
                have k7 : w3.cell? ⟨w.heap.size, 7, none⟩ = some (.int .i64 x.state) := HX3.out.cell rfl
                have k8 : w3.cell? ⟨w.heap.size, 8, none⟩ = some (.int .i64 x.left) := HX3.out.cell rfl
                have k9 : w3.cell? ⟨w.heap.size, 9, none⟩ = some (.int .i64 x.falls) := HX3.out.cell rfl
                have k10 : w3.cell? ⟨w.heap.size, 10, none⟩ = some (.int .i64 x.until_) := HX3.out.cell rfl
                cases h5 : alB x.state with
                | false =>
                  rw [h5] at HD
                  go_wp2_with fail
                  go_ret
                  exact ⟨ret_bool (by rw [HD.out]; simp), hB3⟩
                | true =>
                  rw [h5] at HD
                  clear h5
                  go_wp2_with fail
                  refine (leased11_any x c _).mono ?_
                  rintro e w4 ⟨rfl, hb4⟩
                  have hB4 := hB3.trans (hb4.mono hB3.size)
                  clear hb4 hB3 HX3
                  generalize lsB x c = E at *
                  go_wp2_with fail
                  go_ret
                  exact ⟨ret_bool (by rw [HD.out]; simp), hB4⟩
        · skip
          go_wp2_with fail
          refine (in10_any x.falls 0 1000 _).mono ?_
          rintro e _ ⟨rfl, rfl⟩
          cases h3 : inR x.falls 0 1000 with
          | false =>
            rw [h3] at HC
            go_wp2_with fail
            go_ret
            exact ⟨ret_bool (by rw [HC.out]; simp), hB1⟩
          | true =>
            rw [h3] at HC
            clear h3
            go_upto_region 3 with fail
            clear s2 l0 hok
            go_wp2_with fail
            refine (in10_any x.until_ 0 1000016 _).mono ?_
            rintro e _ ⟨rfl, rfl⟩
            cases h4 : inR x.until_ 0 1000016 with
            | false =>
              rw [h4] at HC
              go_wp2_with fail
              go_ret
              exact ⟨ret_bool (by rw [HC.out]; simp), hB1⟩
            | true =>
              rw [h4] at HC
              clear h4
              by_cases hu : x.want.hold.toList = [] ∧ ¬ x.until_ = 0
              · obtain ⟨hh, u0⟩ := hu
                have HD : Hid (D = false) := by have := HC.out; show _ = _; simpa [hh, u0] using this
                go_wp2_with fail
                go_ret
                exact ⟨ret_bool HD.out.symm, hB1⟩
              have HD : Hid (D = (!alB x.state || lsB x c)) := by
                have := HC.out
                rw [show (!(x.want.hold.toList == []) || decide (x.until_ = 0)) = true from by by_cases e : x.want.hold.toList = [] <;> by_cases e2 : x.until_ = 0 <;> simp [e, e2] at hu ⊢] at this
                show _ = _
                simpa using this
              clear HC
              have hcs : ¬ x.want.hold.toList = [] ∨ (x.want.hold.toList = [] ∧ x.until_ = 0) := by
                by_cases e : x.want.hold.toList = []
                · exact .inr ⟨e, Classical.byContradiction fun e2 => hu ⟨e, e2⟩⟩
                · exact .inl e
              clear hu
              rcases hcs with hh | ⟨hh, u0⟩
              · go_upto_region 5 with fail
                clear hh
                go_wp2_with fail
                refine (specAlive_any x _).mono ?_
                rintro e w3 ⟨rfl, hb3⟩
                have HX3 := Hid.intro (HX1.out.below hb3 HX1.out.lt)
                have hB3 := hB1.trans (hb3.mono hB1.size)
                clear hb3 hB1 HX1 k0 k1 k2 k3 k4 k5 k6 k7 k8 k9 k10
                have k0 : w3.cell? ⟨w.heap.size, 0, none⟩ = some (.string x.want.copy) := HX3.out.cell rfl
                have k1 : w3.cell? ⟨w.heap.size, 1, none⟩ = some (.int .i64 x.want.version) := HX3.out.cell rfl
                have k2 : w3.cell? ⟨w.heap.size, 2, none⟩ = some (.string x.want.hold) := HX3.out.cell rfl
                have k3 : w3.cell? ⟨w.heap.size, 3, none⟩ = some (.int .i64 x.want.pull) := HX3.out.cell rfl
                have k4 : w3.cell? ⟨w.heap.size, 4, none⟩ = some (.int .i64 x.want.start) := HX3.out.cell rfl
                have k5 : w3.cell? ⟨w.heap.size, 5, none⟩ = some (.int .i64 x.want.dies) := HX3.out.cell rfl
                have k6 : w3.cell? ⟨w.heap.size, 6, none⟩ = some (.int .i64 x.want.grace) := HX3.out.cell rfl
                have k7 : w3.cell? ⟨w.heap.size, 7, none⟩ = some (.int .i64 x.state) := HX3.out.cell rfl
                have k8 : w3.cell? ⟨w.heap.size, 8, none⟩ = some (.int .i64 x.left) := HX3.out.cell rfl
                have k9 : w3.cell? ⟨w.heap.size, 9, none⟩ = some (.int .i64 x.falls) := HX3.out.cell rfl
                have k10 : w3.cell? ⟨w.heap.size, 10, none⟩ = some (.int .i64 x.until_) := HX3.out.cell rfl
                cases h5 : alB x.state with
                | false =>
                  rw [h5] at HD
                  go_wp2_with fail
                  go_ret
                  exact ⟨ret_bool (by rw [HD.out]; simp), hB3⟩
                | true =>
                  rw [h5] at HD
                  clear h5
                  go_wp2_with fail
                  refine (leased11_any x c _).mono ?_
                  rintro e w4 ⟨rfl, hb4⟩
                  have hB4 := hB3.trans (hb4.mono hB3.size)
                  clear hb4 hB3 HX3
                  generalize lsB x c = E at *
                  go_wp2_with fail
                  go_ret
                  exact ⟨ret_bool (by rw [HD.out]; simp), hB4⟩
              · go_upto_region 5 with fail
                clear hh u0
                go_wp2_with fail
                refine (specAlive_any x _).mono ?_
                rintro e w3 ⟨rfl, hb3⟩
                have HX3 := Hid.intro (HX1.out.below hb3 HX1.out.lt)
                have hB3 := hB1.trans (hb3.mono hB1.size)
                clear hb3 hB1 HX1 k0 k1 k2 k3 k4 k5 k6 k7 k8 k9 k10
                have k0 : w3.cell? ⟨w.heap.size, 0, none⟩ = some (.string x.want.copy) := HX3.out.cell rfl
                have k1 : w3.cell? ⟨w.heap.size, 1, none⟩ = some (.int .i64 x.want.version) := HX3.out.cell rfl
                have k2 : w3.cell? ⟨w.heap.size, 2, none⟩ = some (.string x.want.hold) := HX3.out.cell rfl
                have k3 : w3.cell? ⟨w.heap.size, 3, none⟩ = some (.int .i64 x.want.pull) := HX3.out.cell rfl
                have k4 : w3.cell? ⟨w.heap.size, 4, none⟩ = some (.int .i64 x.want.start) := HX3.out.cell rfl
                have k5 : w3.cell? ⟨w.heap.size, 5, none⟩ = some (.int .i64 x.want.dies) := HX3.out.cell rfl
                have k6 : w3.cell? ⟨w.heap.size, 6, none⟩ = some (.int .i64 x.want.grace) := HX3.out.cell rfl
                have k7 : w3.cell? ⟨w.heap.size, 7, none⟩ = some (.int .i64 x.state) := HX3.out.cell rfl
                have k8 : w3.cell? ⟨w.heap.size, 8, none⟩ = some (.int .i64 x.left) := HX3.out.cell rfl
                have k9 : w3.cell? ⟨w.heap.size, 9, none⟩ = some (.int .i64 x.falls) := HX3.out.cell rfl
                have k10 : w3.cell? ⟨w.heap.size, 10, none⟩ = some (.int .i64 x.until_) := HX3.out.cell rfl
                cases h5 : alB x.state with
                | false =>
                  rw [h5] at HD
                  go_wp2_with fail
                  go_ret
                  exact ⟨ret_bool (by rw [HD.out]; simp), hB3⟩
                | true =>
                  rw [h5] at HD
                  clear h5
                  go_wp2_with fail
                  refine (leased11_any x c _).mono ?_
                  rintro e w4 ⟨rfl, hb4⟩
                  have hB4 := hB3.trans (hb4.mono hB3.size)
                  clear hb4 hB3 HX3
                  generalize lsB x c = E at *
                  go_wp2_with fail
                  go_ret
                  exact ⟨ret_bool (by rw [HD.out]; simp), hB4⟩

end Go.Proofs.Ytlegklkbmifdeaa
