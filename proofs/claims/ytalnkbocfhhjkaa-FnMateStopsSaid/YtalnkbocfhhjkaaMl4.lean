/-
  A tick of a run, whole, by the program. Made by mkml4.py.
-/
import Derived.Test.YtalnkbocfhhjkaaMl3
namespace Go.Proofs.Ytalnkbocfhhjkaa
open Go.RowKit

/-- wants that are one -/
def eqW (a b : Wnt) : Bool := (a.copy.toList == b.copy.toList) && (a.version == b.version) && (a.hold.toList == b.hold.toList) && (a.pull == b.pull) && (a.start == b.start) && (a.dies == b.dies) && (a.grace == b.grace)

theorem guardW : Try.prog.eqGuardType Try.prog.depth 24 = false := by kernel_rfl
theorem fieldsW : Try.prog.underlying 24 = some (.struct (Try.prog.fieldsOf 24)) := by kernel_rfl
theorem stoodW : Try.prog.stoodInHeld 24 = false := by kernel_rfl

set_option maxHeartbeats 1000000 in
theorem equalW (a b : Wnt) (w : World) : (Op.equalIn 10000 24 (.agg #[.string a.copy, .int .i64 a.version, .string a.hold, .int .i64 a.pull, .int .i64 a.start, .int .i64 a.dies, .int .i64 a.grace]) (.agg #[.string b.copy, .int .i64 b.version, .string b.hold, .int .i64 b.pull, .int .i64 b.start, .int .i64 b.dies, .int .i64 b.grace])).run Try.prog w = .ok (eqW a b) w := by
  rw [show (10000 : Nat) = 9999 + 1 from rfl, run_equalIn_struct w 9999 _ _ _ fieldsW stoodW]
  unfold eqW
  cases h0 : (a.copy.toList == b.copy.toList)
  · simp [go_sem, Program.fieldsOf, Try.underlying24, Try.underlying3, Try.underlying9, h0]
  · skip
    cases h1 : (a.version == b.version)
    · simp [go_sem, Program.fieldsOf, Try.underlying24, Try.underlying3, Try.underlying9, h0, h1]
    · skip
      cases h2 : (a.hold.toList == b.hold.toList)
      · simp [go_sem, Program.fieldsOf, Try.underlying24, Try.underlying3, Try.underlying9, h0, h1, h2]
      · skip
        cases h3 : (a.pull == b.pull)
        · simp [go_sem, Program.fieldsOf, Try.underlying24, Try.underlying3, Try.underlying9, h0, h1, h2, h3]
        · skip
          cases h4 : (a.start == b.start)
          · simp [go_sem, Program.fieldsOf, Try.underlying24, Try.underlying3, Try.underlying9, h0, h1, h2, h3, h4]
          · skip
            cases h5 : (a.dies == b.dies)
            · simp [go_sem, Program.fieldsOf, Try.underlying24, Try.underlying3, Try.underlying9, h0, h1, h2, h3, h4, h5]
            · skip
              cases h6 : (a.grace == b.grace)
              · simp [go_sem, Program.fieldsOf, Try.underlying24, Try.underlying3, Try.underlying9, h0, h1, h2, h3, h4, h5, h6]
              · skip
                simp [go_sem, Program.fieldsOf, Try.underlying24, Try.underlying3, Try.underlying9, h0, h1, h2, h3, h4, h5, h6]

theorem results_cell_tmp {P : Program} {fn : Func} {p t : Tmp} {ty : TypeId} (h : fn.results = #[.cell p ty, .tmp t]) (tmps : Array Value) (w : World) (g : Nat) (cs : List Value) (d : TypeDesc)
    (hp : tmps.getD p undef = .pointer (some ⟨g, 0, none⟩)) (hc : w.rangeAt g 0 cs) (hu : P.underlying ty = some d) (hd : d.isRow = true) (hi : (P.info? ty).map (·.size) = some cs.length) :
    (results fn tmps).run P w = .ok (.tuple #[.agg cs.toArray, tmps.getD t undef]) w := by
  have hp' : tmps[p]?.getD undef = .pointer (some ⟨g, 0, none⟩) := by simpa using hp
  simp [results, h, hp', asAddr, run_loadVar_mid w g 0 ty cs d hc hu hd hi]

/-- nothing -/
def noRn : Rn := ⟨⟨⟨#[]⟩, 0, ⟨#[]⟩, 0, 0, 0, 0⟩, 0, 0, 0, 0⟩

/-- the answer of a tick -/
def lvA (r : Rn × Bool) : Rn × Bool := if r.2 = true then (noRn, false) else (r.1, true)

theorem ctR_want (x : Rn) : (ctR x).want = x.want := by unfold ctR; split <;> rfl
theorem bgR_want (x : Rn) (c : Int) : (bgR x c).want = x.want := by unfold bgR; split <;> rfl
theorem dieR_want (x : Rn) : (dieR x).want = x.want := by unfold dieR; split <;> rfl
theorem unR_want (x : Rn) : (unR x).want = x.want := by
  unfold unR
  split
  · rfl
  · split <;> rfl

theorem stp_want {f : Nat} (hf : isStp f) (x : Rn) (c : Int) (g : Bool) : (stp f x c g).2.1.want = x.want := by
  rcases hf with rfl | rfl | rfl | rfl | rfl | rfl | rfl | rfl | rfl | rfl | rfl
  · exact ctR_want x
  · exact ctR_want x
  · exact ctR_want x
  · exact ctR_want x
  · exact ctR_want x
  · exact ctR_want x
  · exact bgR_want x c
  · rfl
  · exact dieR_want x
  · rfl
  · exact unR_want x

theorem runS_want (c : Int) : ∀ (n : Nat) (st : Option Nat) (x : Rn) (g : Bool), (∀ f, st = some f → isStp f) → (runS c n st x g).1.want = x.want
  | n, none, x, g, _ => by cases n <;> rfl
  | 0, some f, x, g, _ => rfl
  | n + 1, some f, x, g, hf => by
    have h := runS_want c n (stp f x c g).1 (stp f x c g).2.1 (stp f x c g).2.2 (stp_rnk (hf f rfl) x c g).2
    exact h.trans (stp_want (hf f rfl) x c g)

theorem fst1_is (x : Rn) (wanted : Bool) : isStp (fst1 x wanted) := by
  unfold fst1
  split
  · exact stF_is _
  · unfold isStp; decide

theorem isz_Life : (Try.prog.info? 43).map (·.size) = some 13 := by kernel_rfl

set_option maxHeartbeats 4000000 in
set_option maxRecDepth 100000 in
theorem implLive_any (x : Rn) (y : Wnt) (wanted : Bool) (c : Int) (w : World) (z0 : x.want.copy.size ≤ 1048576) (z2 : x.want.hold.size ≤ 1048576) :
    Calls Try.prog 5 #[.agg #[.string x.want.copy, .int .i64 x.want.version, .string x.want.hold, .int .i64 x.want.pull, .int .i64 x.want.start, .int .i64 x.want.dies, .int .i64 x.want.grace, .int .i64 x.state, .int .i64 x.left, .int .i64 x.falls, .int .i64 x.until_], .agg #[.string y.copy, .int .i64 y.version, .string y.hold, .int .i64 y.pull, .int .i64 y.start, .int .i64 y.dies, .int .i64 y.grace], .bool wanted, .int .i64 c] w fun e w' => ∃ F : Rn, ∃ k : Bool, (F, k) = lvA (runS c 3 (some (fst1 x (wanted && eqW y x.want))) x false) ∧ e = .returned (.tuple #[.agg #[.string F.want.copy, .int .i64 F.want.version, .string F.want.hold, .int .i64 F.want.pull, .int .i64 F.want.start, .int .i64 F.want.dies, .int .i64 F.want.grace, .int .i64 F.state, .int .i64 F.left, .int .i64 F.falls, .int .i64 F.until_], .bool k]) ∧ Below w.heap.size w w' := by
  have HX0 : Blk w.heap.size #[.string x.want.copy, .int .i64 x.want.version, .string x.want.hold, .int .i64 x.want.pull, .int .i64 x.want.start, .int .i64 x.want.dies, .int .i64 x.want.grace, .int .i64 x.state, .int .i64 x.left, .int .i64 x.falls, .int .i64 x.until_] 26 (w.alloc (.cells #[.string x.want.copy, .int .i64 x.want.version, .string x.want.hold, .int .i64 x.want.pull, .int .i64 x.want.start, .int .i64 x.want.dies, .int .i64 x.want.grace, .int .i64 x.state, .int .i64 x.left, .int .i64 x.falls, .int .i64 x.until_] 26)) := Blk.alloc _ _ _
  have HY0 : Blk (w.heap.size + 1) #[.string y.copy, .int .i64 y.version, .string y.hold, .int .i64 y.pull, .int .i64 y.start, .int .i64 y.dies, .int .i64 y.grace] 24 ((w.alloc (.cells #[.string x.want.copy, .int .i64 x.want.version, .string x.want.hold, .int .i64 x.want.pull, .int .i64 x.want.start, .int .i64 x.want.dies, .int .i64 x.want.grace, .int .i64 x.state, .int .i64 x.left, .int .i64 x.falls, .int .i64 x.until_] 26)).alloc (.cells #[.string y.copy, .int .i64 y.version, .string y.hold, .int .i64 y.pull, .int .i64 y.start, .int .i64 y.dies, .int .i64 y.grace] 24)) := by
    have := Blk.alloc (w.alloc (.cells #[.string x.want.copy, .int .i64 x.want.version, .string x.want.hold, .int .i64 x.want.pull, .int .i64 x.want.start, .int .i64 x.want.dies, .int .i64 x.want.grace, .int .i64 x.state, .int .i64 x.left, .int .i64 x.falls, .int .i64 x.until_] 26)) #[.string y.copy, .int .i64 y.version, .string y.hold, .int .i64 y.pull, .int .i64 y.start, .int .i64 y.dies, .int .i64 y.grace] 24
    simpa using this
  have hba : Below (w.alloc (.cells #[.string x.want.copy, .int .i64 x.want.version, .string x.want.hold, .int .i64 x.want.pull, .int .i64 x.want.start, .int .i64 x.want.dies, .int .i64 x.want.grace, .int .i64 x.state, .int .i64 x.left, .int .i64 x.falls, .int .i64 x.until_] 26)).heap.size (w.alloc (.cells #[.string x.want.copy, .int .i64 x.want.version, .string x.want.hold, .int .i64 x.want.pull, .int .i64 x.want.start, .int .i64 x.want.dies, .int .i64 x.want.grace, .int .i64 x.state, .int .i64 x.left, .int .i64 x.falls, .int .i64 x.until_] 26)) ((w.alloc (.cells #[.string x.want.copy, .int .i64 x.want.version, .string x.want.hold, .int .i64 x.want.pull, .int .i64 x.want.start, .int .i64 x.want.dies, .int .i64 x.want.grace, .int .i64 x.state, .int .i64 x.left, .int .i64 x.falls, .int .i64 x.until_] 26)).alloc (.cells #[.string y.copy, .int .i64 y.version, .string y.hold, .int .i64 y.pull, .int .i64 y.start, .int .i64 y.dies, .int .i64 y.grace] 24)) := (Below.refl _ _).alloc (Nat.le_refl _) _
  have hbb : Below ((w.alloc (.cells #[.string x.want.copy, .int .i64 x.want.version, .string x.want.hold, .int .i64 x.want.pull, .int .i64 x.want.start, .int .i64 x.want.dies, .int .i64 x.want.grace, .int .i64 x.state, .int .i64 x.left, .int .i64 x.falls, .int .i64 x.until_] 26)).alloc (.cells #[.string y.copy, .int .i64 y.version, .string y.hold, .int .i64 y.pull, .int .i64 y.start, .int .i64 y.dies, .int .i64 y.grace] 24)).heap.size ((w.alloc (.cells #[.string x.want.copy, .int .i64 x.want.version, .string x.want.hold, .int .i64 x.want.pull, .int .i64 x.want.start, .int .i64 x.want.dies, .int .i64 x.want.grace, .int .i64 x.state, .int .i64 x.left, .int .i64 x.falls, .int .i64 x.until_] 26)).alloc (.cells #[.string y.copy, .int .i64 y.version, .string y.hold, .int .i64 y.pull, .int .i64 y.start, .int .i64 y.dies, .int .i64 y.grace] 24)) (((w.alloc (.cells #[.string x.want.copy, .int .i64 x.want.version, .string x.want.hold, .int .i64 x.want.pull, .int .i64 x.want.start, .int .i64 x.want.dies, .int .i64 x.want.grace, .int .i64 x.state, .int .i64 x.left, .int .i64 x.falls, .int .i64 x.until_] 26)).alloc (.cells #[.string y.copy, .int .i64 y.version, .string y.hold, .int .i64 y.pull, .int .i64 y.start, .int .i64 y.dies, .int .i64 y.grace] 24)).alloc (.cells #[.string ⟨#[]⟩, .int .i64 0, .string ⟨#[]⟩, .int .i64 0, .int .i64 0, .int .i64 0, .int .i64 0, .int .i64 0, .int .i64 0, .int .i64 0, .int .i64 0] 26)) := (Below.refl _ _).alloc (Nat.le_refl _) _
  have HZ : Hid (Blk (w.heap.size + 1 + 1) #[.string ⟨#[]⟩, .int .i64 0, .string ⟨#[]⟩, .int .i64 0, .int .i64 0, .int .i64 0, .int .i64 0, .int .i64 0, .int .i64 0, .int .i64 0, .int .i64 0] 26 (((w.alloc (.cells #[.string x.want.copy, .int .i64 x.want.version, .string x.want.hold, .int .i64 x.want.pull, .int .i64 x.want.start, .int .i64 x.want.dies, .int .i64 x.want.grace, .int .i64 x.state, .int .i64 x.left, .int .i64 x.falls, .int .i64 x.until_] 26)).alloc (.cells #[.string y.copy, .int .i64 y.version, .string y.hold, .int .i64 y.pull, .int .i64 y.start, .int .i64 y.dies, .int .i64 y.grace] 24)).alloc (.cells #[.string ⟨#[]⟩, .int .i64 0, .string ⟨#[]⟩, .int .i64 0, .int .i64 0, .int .i64 0, .int .i64 0, .int .i64 0, .int .i64 0, .int .i64 0, .int .i64 0] 26))) := by
    show Blk _ _ _ _
    have := Blk.alloc ((w.alloc (.cells #[.string x.want.copy, .int .i64 x.want.version, .string x.want.hold, .int .i64 x.want.pull, .int .i64 x.want.start, .int .i64 x.want.dies, .int .i64 x.want.grace, .int .i64 x.state, .int .i64 x.left, .int .i64 x.falls, .int .i64 x.until_] 26)).alloc (.cells #[.string y.copy, .int .i64 y.version, .string y.hold, .int .i64 y.pull, .int .i64 y.start, .int .i64 y.dies, .int .i64 y.grace] 24)) #[.string ⟨#[]⟩, .int .i64 0, .string ⟨#[]⟩, .int .i64 0, .int .i64 0, .int .i64 0, .int .i64 0, .int .i64 0, .int .i64 0, .int .i64 0, .int .i64 0] 26
    simpa using this
  have HX : Hid (Blk w.heap.size #[.string x.want.copy, .int .i64 x.want.version, .string x.want.hold, .int .i64 x.want.pull, .int .i64 x.want.start, .int .i64 x.want.dies, .int .i64 x.want.grace, .int .i64 x.state, .int .i64 x.left, .int .i64 x.falls, .int .i64 x.until_] 26 (((w.alloc (.cells #[.string x.want.copy, .int .i64 x.want.version, .string x.want.hold, .int .i64 x.want.pull, .int .i64 x.want.start, .int .i64 x.want.dies, .int .i64 x.want.grace, .int .i64 x.state, .int .i64 x.left, .int .i64 x.falls, .int .i64 x.until_] 26)).alloc (.cells #[.string y.copy, .int .i64 y.version, .string y.hold, .int .i64 y.pull, .int .i64 y.start, .int .i64 y.dies, .int .i64 y.grace] 24)).alloc (.cells #[.string ⟨#[]⟩, .int .i64 0, .string ⟨#[]⟩, .int .i64 0, .int .i64 0, .int .i64 0, .int .i64 0, .int .i64 0, .int .i64 0, .int .i64 0, .int .i64 0] 26))) := (HX0.below hba HX0.lt).below hbb (HX0.below hba HX0.lt).lt
  have HY : Hid (Blk (w.heap.size + 1) #[.string y.copy, .int .i64 y.version, .string y.hold, .int .i64 y.pull, .int .i64 y.start, .int .i64 y.dies, .int .i64 y.grace] 24 (((w.alloc (.cells #[.string x.want.copy, .int .i64 x.want.version, .string x.want.hold, .int .i64 x.want.pull, .int .i64 x.want.start, .int .i64 x.want.dies, .int .i64 x.want.grace, .int .i64 x.state, .int .i64 x.left, .int .i64 x.falls, .int .i64 x.until_] 26)).alloc (.cells #[.string y.copy, .int .i64 y.version, .string y.hold, .int .i64 y.pull, .int .i64 y.start, .int .i64 y.dies, .int .i64 y.grace] 24)).alloc (.cells #[.string ⟨#[]⟩, .int .i64 0, .string ⟨#[]⟩, .int .i64 0, .int .i64 0, .int .i64 0, .int .i64 0, .int .i64 0, .int .i64 0, .int .i64 0, .int .i64 0] 26))) := HY0.below hbb HY0.lt
  have hB0 : Below w.heap.size w (((w.alloc (.cells #[.string x.want.copy, .int .i64 x.want.version, .string x.want.hold, .int .i64 x.want.pull, .int .i64 x.want.start, .int .i64 x.want.dies, .int .i64 x.want.grace, .int .i64 x.state, .int .i64 x.left, .int .i64 x.falls, .int .i64 x.until_] 26)).alloc (.cells #[.string y.copy, .int .i64 y.version, .string y.hold, .int .i64 y.pull, .int .i64 y.start, .int .i64 y.dies, .int .i64 y.grace] 24)).alloc (.cells #[.string ⟨#[]⟩, .int .i64 0, .string ⟨#[]⟩, .int .i64 0, .int .i64 0, .int .i64 0, .int .i64 0, .int .i64 0, .int .i64 0, .int .i64 0, .int .i64 0] 26)) := by go_grown
  clear HX0 HY0 hba hbb
  go_enter Try.func5, Try.ntmps5
  go_upto_region 1 with fail
  generalize ((w.alloc (Obj.cells #[.string x.want.copy, .int .i64 x.want.version, .string x.want.hold, .int .i64 x.want.pull, .int .i64 x.want.start, .int .i64 x.want.dies, .int .i64 x.want.grace, .int .i64 x.state, .int .i64 x.left, .int .i64 x.falls, .int .i64 x.until_] 26)).alloc (Obj.cells #[.string y.copy, .int .i64 y.version, .string y.hold, .int .i64 y.pull, .int .i64 y.start, .int .i64 y.dies, .int .i64 y.grace] 24)).alloc (Obj.cells #[.string ⟨#[]⟩, .int .i64 0, .string ⟨#[]⟩, .int .i64 0, .int .i64 0, .int .i64 0, .int .i64 0, .int .i64 0, .int .i64 0, .int .i64 0, .int .i64 0] 26) = w0 at *
  go_wp2_with (first | (refine wpList_load_mid rfl 26 _ rfl w.heap.size 0 rfl [.string x.want.copy, .int .i64 x.want.version, .string x.want.hold, .int .i64 x.want.pull, .int .i64 x.want.start, .int .i64 x.want.dies, .int .i64 x.want.grace, .int .i64 x.state, .int .i64 x.left, .int .i64 x.falls, .int .i64 x.until_] _ HX.out.rangeA Try.underlying26 rfl isz_Rn ?_))
  refine (runOf_any x _).mono ?_
  rintro e w1 ⟨rfl, hb1⟩
  have HX1 := Hid.intro (HX.out.below hb1 HX.out.lt)
  have HY1 := Hid.intro (HY.out.below hb1 HY.out.lt)
  have HZ1 := Hid.intro (HZ.out.below hb1 HZ.out.lt)
  have hB1 := hB0.trans (hb1.mono hB0.size)
  clear hb1 hB0 HX HY HZ
  have hza : Blk w1.heap.size #[.string ⟨#[]⟩, .int .i64 0, .string ⟨#[]⟩, .int .i64 0, .int .i64 0, .int .i64 0, .int .i64 0, .int .i64 0, .int .i64 0, .int .i64 0, .int .i64 0, .int .i64 0, .bool false] 43 (w1.alloc (Obj.cells #[.string ⟨#[]⟩, .int .i64 0, .string ⟨#[]⟩, .int .i64 0, .int .i64 0, .int .i64 0, .int .i64 0, .int .i64 0, .int .i64 0, .int .i64 0, .int .i64 0, .int .i64 0, .bool false] 43)) := Blk.alloc _ _ _
  have HTS : Hid ((w1.alloc (Obj.cells #[.string ⟨#[]⟩, .int .i64 0, .string ⟨#[]⟩, .int .i64 0, .int .i64 0, .int .i64 0, .int .i64 0, .int .i64 0, .int .i64 0, .int .i64 0, .int .i64 0, .int .i64 0, .bool false] 43)).there w1.heap.size 0 13) := hza.there
  obtain ⟨w3, HW3⟩ : ∃ w3, Hid (w3 = (w1.alloc (Obj.cells #[.string ⟨#[]⟩, .int .i64 0, .string ⟨#[]⟩, .int .i64 0, .int .i64 0, .int .i64 0, .int .i64 0, .int .i64 0, .int .i64 0, .int .i64 0, .int .i64 0, .int .i64 0, .bool false] 43)).setCells w1.heap.size 0 [.string x.want.copy, .int .i64 x.want.version, .string x.want.hold, .int .i64 x.want.pull, .int .i64 x.want.start, .int .i64 x.want.dies, .int .i64 x.want.grace, .int .i64 x.state, .int .i64 x.left, .int .i64 x.falls, .int .i64 x.until_, .int .i64 c, .bool false]) := ⟨_, rfl⟩
  have HL3 : Hid (Blk w1.heap.size (lifeA x c false) 43 w3) := by
    show Blk _ _ _ _
    rw [HW3.out]
    exact hza.setAll (lifeA x c false) rfl
  have hbx : Below w1.heap.size w1 w3 := by
    rw [HW3.out]
    exact below_setCells (Nat.le_refl _) _ _ _ ((Below.refl _ w1).alloc (Nat.le_refl _) _)
  have HX3 := Hid.intro (HX1.out.below hbx HX1.out.lt)
  have HY3 := Hid.intro (HY1.out.below hbx HY1.out.lt)
  have HZ3 := Hid.intro (HZ1.out.below hbx HZ1.out.lt)
  have hB3 := hB1.trans (hbx.mono hB1.size)
  have hzl : w.heap.size + 1 + 1 < w1.heap.size := HZ1.out.lt
  clear hza hbx HX1 HY1 HZ1 hB1
  go_upto_region 2 with (first | (refine wpList_store_to rfl 43 _ _ rfl w1.heap.size 0 #[.string x.want.copy, .int .i64 x.want.version, .string x.want.hold, .int .i64 x.want.pull, .int .i64 x.want.start, .int .i64 x.want.dies, .int .i64 x.want.grace, .int .i64 x.state, .int .i64 x.left, .int .i64 x.falls, .int .i64 x.until_, .int .i64 c, .bool false] rfl rfl HTS.out isz_Life (by simp [Value.oneCell']) w3 HW3.out ?_))
  clear HTS HW3
  have hq : ∀ w, (Op.equalIn 10000 24 (.agg #[.string y.copy, .int .i64 y.version, .string y.hold, .int .i64 y.pull, .int .i64 y.start, .int .i64 y.dies, .int .i64 y.grace]) (.agg #[.string x.want.copy, .int .i64 x.want.version, .string x.want.hold, .int .i64 x.want.pull, .int .i64 x.want.start, .int .i64 x.want.dies, .int .i64 x.want.grace])).run Try.prog w = .ok (eqW y x.want) w := fun w => equalW y x.want w
  have hgd := guardW
  have HFW := Hid.intro (runS_want c 3 (some (fst1 x (wanted && eqW y x.want))) x false (fun f hf => by cases hf; exact fst1_is _ _))
  have hT : ∀ v, v = (wanted && eqW y x.want) → Calls Try.prog 13 #[.pointer (some ⟨w1.heap.size, 0, none⟩), .bool v] w3 fun e w' => e = .returned (.tuple #[]) ∧ Blk w1.heap.size (lifeA (runS c 3 (some (fst1 x (wanted && eqW y x.want))) x false).1 c (runS c 3 (some (fst1 x (wanted && eqW y x.want))) x false).2) 43 w' ∧ Below w1.heap.size w3 w' := fun v hv => by
    subst hv
    exact tick_any x c false w1.heap.size _ w3 HL3.out
  have HT := Hid.intro hT
  clear hT
  obtain ⟨FIN, hfin⟩ : ∃ r, r = runS c 3 (some (fst1 x (wanted && eqW y x.want))) x false := ⟨_, rfl⟩
  rw [← hfin] at HFW HT
  have HFIN := Hid.intro hfin
  clear hfin
  have k0 : w3.cell? ⟨w.heap.size, 0, none⟩ = some (.string x.want.copy) := HX3.out.cell rfl
  have k1 : w3.cell? ⟨w.heap.size, 1, none⟩ = some (.int .i64 x.want.version) := HX3.out.cell rfl
  have k2 : w3.cell? ⟨w.heap.size, 2, none⟩ = some (.string x.want.hold) := HX3.out.cell rfl
  have k3 : w3.cell? ⟨w.heap.size, 3, none⟩ = some (.int .i64 x.want.pull) := HX3.out.cell rfl
  have k4 : w3.cell? ⟨w.heap.size, 4, none⟩ = some (.int .i64 x.want.start) := HX3.out.cell rfl
  have k5 : w3.cell? ⟨w.heap.size, 5, none⟩ = some (.int .i64 x.want.dies) := HX3.out.cell rfl
  have k6 : w3.cell? ⟨w.heap.size, 6, none⟩ = some (.int .i64 x.want.grace) := HX3.out.cell rfl
  have l0 : w3.cell? ⟨w.heap.size + 1, 0, none⟩ = some (.string y.copy) := HY3.out.cell rfl
  have l1 : w3.cell? ⟨w.heap.size + 1, 1, none⟩ = some (.int .i64 y.version) := HY3.out.cell rfl
  have l2 : w3.cell? ⟨w.heap.size + 1, 2, none⟩ = some (.string y.hold) := HY3.out.cell rfl
  have l3 : w3.cell? ⟨w.heap.size + 1, 3, none⟩ = some (.int .i64 y.pull) := HY3.out.cell rfl
  have l4 : w3.cell? ⟨w.heap.size + 1, 4, none⟩ = some (.int .i64 y.start) := HY3.out.cell rfl
  have l5 : w3.cell? ⟨w.heap.size + 1, 5, none⟩ = some (.int .i64 y.dies) := HY3.out.cell rfl
  have l6 : w3.cell? ⟨w.heap.size + 1, 6, none⟩ = some (.int .i64 y.grace) := HY3.out.cell rfl
  cases wanted with
  | false =>
    go_wp2_with fail
    refine (HT.out _ rfl).mono ?_
    rintro e w4 ⟨rfl, hL4, hb4⟩
    have HL4 := Hid.intro hL4
    have HZ4 := Hid.intro (HZ3.out.below hb4 hzl)
    have hB4 := hB3.trans (hb4.mono (by have := hB3.size; omega))
    have m12 : w4.cell? ⟨w1.heap.size, 12, none⟩ = some (.bool FIN.2) := hL4.cell rfl
    clear hL4 hb4 HZ3 hB3 HT hq hgd k0 l0 k1 l1 k2 l2 k3 l3 k4 l4 k5 l5 k6 l6
    obtain ⟨F, G⟩ := FIN
    simp only at m12 HL4 HFW
    cases G with
    | true =>
      obtain ⟨w5, HW5⟩ : ∃ w5, Hid (w5 = w4.setCells (w.heap.size + 1 + 1) 0 [.string ⟨#[]⟩, .int .i64 0, .string ⟨#[]⟩, .int .i64 0, .int .i64 0, .int .i64 0, .int .i64 0, .int .i64 0, .int .i64 0, .int .i64 0, .int .i64 0]) := ⟨_, rfl⟩
      have HR5 : Hid (w5.rangeAt (w.heap.size + 1 + 1) 0 [.string ⟨#[]⟩, .int .i64 0, .string ⟨#[]⟩, .int .i64 0, .int .i64 0, .int .i64 0, .int .i64 0, .int .i64 0, .int .i64 0, .int .i64 0, .int .i64 0]) := by
        show World.rangeAt _ _ _ _
        rw [HW5.out]
        exact World.rangeAt_setCells_same _ _ _ _ HZ4.out.there
      have hB5 : Below w.heap.size w w5 := by
        rw [HW5.out]
        exact below_setCells (by omega) _ _ _ hB4
      have HTZ := Hid.intro HZ4.out.there
      clear hB4 HZ4
      go_wp2_with (first | (refine wpList_store_to rfl 26 _ _ rfl (w.heap.size + 1 + 1) 0 #[.string ⟨#[]⟩, .int .i64 0, .string ⟨#[]⟩, .int .i64 0, .int .i64 0, .int .i64 0, .int .i64 0, .int .i64 0, .int .i64 0, .int .i64 0, .int .i64 0] rfl rfl HTZ.out isz_Rn (by simp [Value.oneCell']) w5 HW5.out ?_))
      refine bodyPost_ret (results_cell_tmp rfl _ _ (w.heap.size + 1 + 1) [.string ⟨#[]⟩, .int .i64 0, .string ⟨#[]⟩, .int .i64 0, .int .i64 0, .int .i64 0, .int .i64 0, .int .i64 0, .int .i64 0, .int .i64 0, .int .i64 0] _ rfl HR5.out Try.underlying26 rfl isz_Rn) rfl ⟨noRn, false, by rw [← HFIN.out]; rfl, rfl, hB5⟩
    | false =>
      have HS0 : Hid (F.want.copy.size ≤ 1048576) := by show _ ≤ _; rw [HFW.out]; exact z0
      have HS2 : Hid (F.want.hold.size ≤ 1048576) := by show _ ≤ _; rw [HFW.out]; exact z2
      go_wp2_with (first | (refine wpList_load_mid rfl 40 _ rfl w1.heap.size 0 rfl [.string F.want.copy, .int .i64 F.want.version, .string F.want.hold, .int .i64 F.want.pull, .int .i64 F.want.start, .int .i64 F.want.dies, .int .i64 F.want.grace, .int .i64 F.state, .int .i64 F.left, .int .i64 F.falls, .int .i64 F.until_] _ HL4.out.sub11 Try.underlying40 rfl isz_mRun ?_))
      refine (told_any F _ HS0.out HS2.out).mono ?_
      rintro e w6 ⟨rfl, hb6⟩
      have HZ6 := Hid.intro (HZ4.out.below hb6 HZ4.out.lt)
      have hB6 := hB4.trans (hb6.mono hB4.size)
      clear hb6 hB4 HZ4 m12 HL4
      obtain ⟨w5, HW5⟩ : ∃ w5, Hid (w5 = w6.setCells (w.heap.size + 1 + 1) 0 [.string F.want.copy, .int .i64 F.want.version, .string F.want.hold, .int .i64 F.want.pull, .int .i64 F.want.start, .int .i64 F.want.dies, .int .i64 F.want.grace, .int .i64 F.state, .int .i64 F.left, .int .i64 F.falls, .int .i64 F.until_]) := ⟨_, rfl⟩
      have HR5 : Hid (w5.rangeAt (w.heap.size + 1 + 1) 0 [.string F.want.copy, .int .i64 F.want.version, .string F.want.hold, .int .i64 F.want.pull, .int .i64 F.want.start, .int .i64 F.want.dies, .int .i64 F.want.grace, .int .i64 F.state, .int .i64 F.left, .int .i64 F.falls, .int .i64 F.until_]) := by
        show World.rangeAt _ _ _ _
        rw [HW5.out]
        exact World.rangeAt_setCells_same _ _ _ _ HZ6.out.there
      have hB5 : Below w.heap.size w w5 := by
        rw [HW5.out]
        exact below_setCells (by omega) _ _ _ hB6
      have HTZ := Hid.intro HZ6.out.there
      clear hB6 HZ6
      go_wp2_with (first | (refine wpList_store_to rfl 26 _ _ rfl (w.heap.size + 1 + 1) 0 #[.string F.want.copy, .int .i64 F.want.version, .string F.want.hold, .int .i64 F.want.pull, .int .i64 F.want.start, .int .i64 F.want.dies, .int .i64 F.want.grace, .int .i64 F.state, .int .i64 F.left, .int .i64 F.falls, .int .i64 F.until_] rfl rfl HTZ.out isz_Rn (by simp [Value.oneCell']) w5 HW5.out ?_))
      refine bodyPost_ret (results_cell_tmp rfl _ _ (w.heap.size + 1 + 1) [.string F.want.copy, .int .i64 F.want.version, .string F.want.hold, .int .i64 F.want.pull, .int .i64 F.want.start, .int .i64 F.want.dies, .int .i64 F.want.grace, .int .i64 F.state, .int .i64 F.left, .int .i64 F.falls, .int .i64 F.until_] _ rfl HR5.out Try.underlying26 rfl isz_Rn) rfl ⟨F, true, by rw [← HFIN.out]; rfl, rfl, hB5⟩
  | true =>
    go_wp2_with fail
    refine (HT.out _ (by simp)).mono ?_
    rintro e w4 ⟨rfl, hL4, hb4⟩
    have HL4 := Hid.intro hL4
    have HZ4 := Hid.intro (HZ3.out.below hb4 hzl)
    have hB4 := hB3.trans (hb4.mono (by have := hB3.size; omega))
    have m12 : w4.cell? ⟨w1.heap.size, 12, none⟩ = some (.bool FIN.2) := hL4.cell rfl
    clear hL4 hb4 HZ3 hB3 HT hq hgd k0 l0 k1 l1 k2 l2 k3 l3 k4 l4 k5 l5 k6 l6
    obtain ⟨F, G⟩ := FIN
    simp only at m12 HL4 HFW
    cases G with
    | true =>
      obtain ⟨w5, HW5⟩ : ∃ w5, Hid (w5 = w4.setCells (w.heap.size + 1 + 1) 0 [.string ⟨#[]⟩, .int .i64 0, .string ⟨#[]⟩, .int .i64 0, .int .i64 0, .int .i64 0, .int .i64 0, .int .i64 0, .int .i64 0, .int .i64 0, .int .i64 0]) := ⟨_, rfl⟩
      have HR5 : Hid (w5.rangeAt (w.heap.size + 1 + 1) 0 [.string ⟨#[]⟩, .int .i64 0, .string ⟨#[]⟩, .int .i64 0, .int .i64 0, .int .i64 0, .int .i64 0, .int .i64 0, .int .i64 0, .int .i64 0, .int .i64 0]) := by
        show World.rangeAt _ _ _ _
        rw [HW5.out]
        exact World.rangeAt_setCells_same _ _ _ _ HZ4.out.there
      have hB5 : Below w.heap.size w w5 := by
        rw [HW5.out]
        exact below_setCells (by omega) _ _ _ hB4
      have HTZ := Hid.intro HZ4.out.there
      clear hB4 HZ4
      go_wp2_with (first | (refine wpList_store_to rfl 26 _ _ rfl (w.heap.size + 1 + 1) 0 #[.string ⟨#[]⟩, .int .i64 0, .string ⟨#[]⟩, .int .i64 0, .int .i64 0, .int .i64 0, .int .i64 0, .int .i64 0, .int .i64 0, .int .i64 0, .int .i64 0] rfl rfl HTZ.out isz_Rn (by simp [Value.oneCell']) w5 HW5.out ?_))
      refine bodyPost_ret (results_cell_tmp rfl _ _ (w.heap.size + 1 + 1) [.string ⟨#[]⟩, .int .i64 0, .string ⟨#[]⟩, .int .i64 0, .int .i64 0, .int .i64 0, .int .i64 0, .int .i64 0, .int .i64 0, .int .i64 0, .int .i64 0] _ rfl HR5.out Try.underlying26 rfl isz_Rn) rfl ⟨noRn, false, by rw [← HFIN.out]; rfl, rfl, hB5⟩
    | false =>
      have HS0 : Hid (F.want.copy.size ≤ 1048576) := by show _ ≤ _; rw [HFW.out]; exact z0
      have HS2 : Hid (F.want.hold.size ≤ 1048576) := by show _ ≤ _; rw [HFW.out]; exact z2
      go_wp2_with (first | (refine wpList_load_mid rfl 40 _ rfl w1.heap.size 0 rfl [.string F.want.copy, .int .i64 F.want.version, .string F.want.hold, .int .i64 F.want.pull, .int .i64 F.want.start, .int .i64 F.want.dies, .int .i64 F.want.grace, .int .i64 F.state, .int .i64 F.left, .int .i64 F.falls, .int .i64 F.until_] _ HL4.out.sub11 Try.underlying40 rfl isz_mRun ?_))
      refine (told_any F _ HS0.out HS2.out).mono ?_
      rintro e w6 ⟨rfl, hb6⟩
      have HZ6 := Hid.intro (HZ4.out.below hb6 HZ4.out.lt)
      have hB6 := hB4.trans (hb6.mono hB4.size)
      clear hb6 hB4 HZ4 m12 HL4
      obtain ⟨w5, HW5⟩ : ∃ w5, Hid (w5 = w6.setCells (w.heap.size + 1 + 1) 0 [.string F.want.copy, .int .i64 F.want.version, .string F.want.hold, .int .i64 F.want.pull, .int .i64 F.want.start, .int .i64 F.want.dies, .int .i64 F.want.grace, .int .i64 F.state, .int .i64 F.left, .int .i64 F.falls, .int .i64 F.until_]) := ⟨_, rfl⟩
      have HR5 : Hid (w5.rangeAt (w.heap.size + 1 + 1) 0 [.string F.want.copy, .int .i64 F.want.version, .string F.want.hold, .int .i64 F.want.pull, .int .i64 F.want.start, .int .i64 F.want.dies, .int .i64 F.want.grace, .int .i64 F.state, .int .i64 F.left, .int .i64 F.falls, .int .i64 F.until_]) := by
        show World.rangeAt _ _ _ _
        rw [HW5.out]
        exact World.rangeAt_setCells_same _ _ _ _ HZ6.out.there
      have hB5 : Below w.heap.size w w5 := by
        rw [HW5.out]
        exact below_setCells (by omega) _ _ _ hB6
      have HTZ := Hid.intro HZ6.out.there
      clear hB6 HZ6
      go_wp2_with (first | (refine wpList_store_to rfl 26 _ _ rfl (w.heap.size + 1 + 1) 0 #[.string F.want.copy, .int .i64 F.want.version, .string F.want.hold, .int .i64 F.want.pull, .int .i64 F.want.start, .int .i64 F.want.dies, .int .i64 F.want.grace, .int .i64 F.state, .int .i64 F.left, .int .i64 F.falls, .int .i64 F.until_] rfl rfl HTZ.out isz_Rn (by simp [Value.oneCell']) w5 HW5.out ?_))
      refine bodyPost_ret (results_cell_tmp rfl _ _ (w.heap.size + 1 + 1) [.string F.want.copy, .int .i64 F.want.version, .string F.want.hold, .int .i64 F.want.pull, .int .i64 F.want.start, .int .i64 F.want.dies, .int .i64 F.want.grace, .int .i64 F.state, .int .i64 F.left, .int .i64 F.falls, .int .i64 F.until_] _ rfl HR5.out Try.underlying26 rfl isz_Rn) rfl ⟨F, true, by rw [← HFIN.out]; rfl, rfl, hB5⟩

end Go.Proofs.Ytalnkbocfhhjkaa
