/-
  What a tick of a run is tried at. Made by mkdr7.py.
-/
import Derived.Test.YtalnkbocfhhjkaaDr4
import Derived.Test.YtalnkbocfhhjkaaDr6
namespace Go.Proofs.Ytalnkbocfhhjkaa
open Go.RowKit

theorem results_cells4 {P : Program} {fn : Func} {p q t u : Tmp} {ty ty2 : TypeId} (h : fn.results = #[.cell p ty, .cell q ty2, .tmp t, .tmp u]) (tmps : Array Value) (w : World) (g : Nat) (cs : List Value) (d : TypeDesc) (g2 : Nat) (cs2 : List Value) (d2 : TypeDesc)
    (hp : tmps.getD p undef = .pointer (some ⟨g, 0, none⟩)) (hc : w.rangeAt g 0 cs) (hu : P.underlying ty = some d) (hd : d.isRow = true) (hi : (P.info? ty).map (·.size) = some cs.length)
    (hp2 : tmps.getD q undef = .pointer (some ⟨g2, 0, none⟩)) (hc2 : w.rangeAt g2 0 cs2) (hu2 : P.underlying ty2 = some d2) (hd2 : d2.isRow = true) (hi2 : (P.info? ty2).map (·.size) = some cs2.length) :
    (results fn tmps).run P w = .ok (.tuple #[.agg cs.toArray, .agg cs2.toArray, tmps.getD t undef, tmps.getD u undef]) w := by
  have hp' : tmps[p]?.getD undef = .pointer (some ⟨g, 0, none⟩) := by simpa using hp
  have hq' : tmps[q]?.getD undef = .pointer (some ⟨g2, 0, none⟩) := by simpa using hp2
  simp [results, h, hp', hq', asAddr, run_loadVar_mid w g 0 ty cs d hc hu hd hi, run_loadVar_mid w g2 0 ty2 cs2 d2 hc2 hu2 hd2 hi2]

set_option maxHeartbeats 8000000 in
set_option maxRecDepth 100000 in
theorem drawLive_any (xs : List Nat) (a : Option Addr) (cap : Nat) (w : World) (hin : ∀ (k x : Nat), xs[k]? = some x → ∃ b o, a = some ⟨b, o, none⟩ ∧ w.cell? ⟨b, o + k, none⟩ = some (.int .u8 (x : Int)) ∧ x < 256 ∧ b < w.heap.size) (hl : xs.length ≤ 1048576) (hc : xs.length ≤ cap) :
    Calls Try.prog 4 #[.slice a xs.length cap] w fun e w' => ∃ (x : Rn) (y : Wnt) (v : Bool) (c : Int), e = .returned (.tuple #[.agg #[.string x.want.copy, .int .i64 x.want.version, .string x.want.hold, .int .i64 x.want.pull, .int .i64 x.want.start, .int .i64 x.want.dies, .int .i64 x.want.grace, .int .i64 x.state, .int .i64 x.left, .int .i64 x.falls, .int .i64 x.until_], .agg #[.string y.copy, .int .i64 y.version, .string y.hold, .int .i64 y.pull, .int .i64 y.start, .int .i64 y.dies, .int .i64 y.grace], .bool v, .int .i64 c]) ∧ x.want.copy.size ≤ 100 ∧ x.want.hold.size ≤ 100 ∧ 0 ≤ c ∧ c < 40 ∧ Below w.heap.size w w' := by
  have HZa : Blk w.heap.size #[.string ⟨#[]⟩, .int .i64 0, .string ⟨#[]⟩, .int .i64 0, .int .i64 0, .int .i64 0, .int .i64 0, .int .i64 0, .int .i64 0, .int .i64 0, .int .i64 0] 26 (w.alloc (.cells #[.string ⟨#[]⟩, .int .i64 0, .string ⟨#[]⟩, .int .i64 0, .int .i64 0, .int .i64 0, .int .i64 0, .int .i64 0, .int .i64 0, .int .i64 0, .int .i64 0] 26)) := Blk.alloc _ _ _
  have HY2 : Hid (Blk (w.heap.size + 1) #[.string ⟨#[]⟩, .int .i64 0, .string ⟨#[]⟩, .int .i64 0, .int .i64 0, .int .i64 0, .int .i64 0] 24 ((w.alloc (.cells #[.string ⟨#[]⟩, .int .i64 0, .string ⟨#[]⟩, .int .i64 0, .int .i64 0, .int .i64 0, .int .i64 0, .int .i64 0, .int .i64 0, .int .i64 0, .int .i64 0] 26)).alloc (.cells #[.string ⟨#[]⟩, .int .i64 0, .string ⟨#[]⟩, .int .i64 0, .int .i64 0, .int .i64 0, .int .i64 0] 24))) := by
    have := Blk.alloc (w.alloc (.cells #[.string ⟨#[]⟩, .int .i64 0, .string ⟨#[]⟩, .int .i64 0, .int .i64 0, .int .i64 0, .int .i64 0, .int .i64 0, .int .i64 0, .int .i64 0, .int .i64 0] 26)) #[.string ⟨#[]⟩, .int .i64 0, .string ⟨#[]⟩, .int .i64 0, .int .i64 0, .int .i64 0, .int .i64 0] 24
    show Blk _ _ _ _
    simpa using this
  have HZ2 : Hid (Blk w.heap.size #[.string ⟨#[]⟩, .int .i64 0, .string ⟨#[]⟩, .int .i64 0, .int .i64 0, .int .i64 0, .int .i64 0, .int .i64 0, .int .i64 0, .int .i64 0, .int .i64 0] 26 ((w.alloc (.cells #[.string ⟨#[]⟩, .int .i64 0, .string ⟨#[]⟩, .int .i64 0, .int .i64 0, .int .i64 0, .int .i64 0, .int .i64 0, .int .i64 0, .int .i64 0, .int .i64 0] 26)).alloc (.cells #[.string ⟨#[]⟩, .int .i64 0, .string ⟨#[]⟩, .int .i64 0, .int .i64 0, .int .i64 0, .int .i64 0] 24))) := HZa.below ((Below.refl _ _).alloc (Nat.le_refl _) _) HZa.lt
  have hB2 : Below w.heap.size w ((w.alloc (.cells #[.string ⟨#[]⟩, .int .i64 0, .string ⟨#[]⟩, .int .i64 0, .int .i64 0, .int .i64 0, .int .i64 0, .int .i64 0, .int .i64 0, .int .i64 0, .int .i64 0] 26)).alloc (.cells #[.string ⟨#[]⟩, .int .i64 0, .string ⟨#[]⟩, .int .i64 0, .int .i64 0, .int .i64 0, .int .i64 0] 24)) := by go_grown
  have HS2 : Hid (((w.alloc (.cells #[.string ⟨#[]⟩, .int .i64 0, .string ⟨#[]⟩, .int .i64 0, .int .i64 0, .int .i64 0, .int .i64 0, .int .i64 0, .int .i64 0, .int .i64 0, .int .i64 0] 26)).alloc (.cells #[.string ⟨#[]⟩, .int .i64 0, .string ⟨#[]⟩, .int .i64 0, .int .i64 0, .int .i64 0, .int .i64 0] 24)).heap.size = w.heap.size + 2) := by show _ = _; simp
  have HI2 : Hid (∀ (k x : Nat), xs[k]? = some x → ∃ b o, a = some ⟨b, o, none⟩ ∧ ((w.alloc (.cells #[.string ⟨#[]⟩, .int .i64 0, .string ⟨#[]⟩, .int .i64 0, .int .i64 0, .int .i64 0, .int .i64 0, .int .i64 0, .int .i64 0, .int .i64 0, .int .i64 0] 26)).alloc (.cells #[.string ⟨#[]⟩, .int .i64 0, .string ⟨#[]⟩, .int .i64 0, .int .i64 0, .int .i64 0, .int .i64 0] 24)).cell? ⟨b, o + k, none⟩ = some (.int .u8 (x : Int)) ∧ x < 256 ∧ b < ((w.alloc (.cells #[.string ⟨#[]⟩, .int .i64 0, .string ⟨#[]⟩, .int .i64 0, .int .i64 0, .int .i64 0, .int .i64 0, .int .i64 0, .int .i64 0, .int .i64 0, .int .i64 0] 26)).alloc (.cells #[.string ⟨#[]⟩, .int .i64 0, .string ⟨#[]⟩, .int .i64 0, .int .i64 0, .int .i64 0, .int .i64 0] 24)).heap.size) := fun k x hk => by
    obtain ⟨b, o, e, c, l, q⟩ := hin k x hk
    exact ⟨b, o, e, (hB2.cell (p := ⟨b, o + k, none⟩) q).trans c, l, by have := hB2.size; omega⟩
  clear hin HZa
  go_enter Try.func4, Try.ntmps4
  go_wp2_with fail
  generalize (w.alloc (Obj.cells #[.string ⟨#[]⟩, .int .i64 0, .string ⟨#[]⟩, .int .i64 0, .int .i64 0, .int .i64 0, .int .i64 0, .int .i64 0, .int .i64 0, .int .i64 0, .int .i64 0] 26)).alloc (Obj.cells #[.string ⟨#[]⟩, .int .i64 0, .string ⟨#[]⟩, .int .i64 0, .int .i64 0, .int .i64 0, .int .i64 0] 24) = w2 at *
  refine (open_rd xs a cap _ HI2.out hl hc).mono ?_
  rintro e w3 ⟨p, rfl, hr, hp, hb⟩
  have hgp : w.heap.size + 2 ≤ p := by rw [← HS2.out]; exact hp
  have HZ3 : Hid (Blk w.heap.size #[.string ⟨#[]⟩, .int .i64 0, .string ⟨#[]⟩, .int .i64 0, .int .i64 0, .int .i64 0, .int .i64 0, .int .i64 0, .int .i64 0, .int .i64 0, .int .i64 0] 26 w3) := HZ2.out.below hb HZ2.out.lt
  have HY3 : Hid (Blk (w.heap.size + 1) #[.string ⟨#[]⟩, .int .i64 0, .string ⟨#[]⟩, .int .i64 0, .int .i64 0, .int .i64 0, .int .i64 0] 24 w3) := HY2.out.below hb HY2.out.lt
  have hB3 : Below w.heap.size w w3 := hB2.trans (hb.mono hB2.size)
  have HR3 := Hid.intro hr
  clear HZ2 HY2 hB2 HS2 HI2 hr hp hb hl hc
  go_wp2_with fail
  refine (pick_rd p 0 40 _ HR3.out (by omega) (by omega) (by omega)).mono ?_
  rintro e w4 ⟨c, rfl, hc40, hr, hb, -⟩
  have HZ4 : Hid (Blk w.heap.size #[.string ⟨#[]⟩, .int .i64 0, .string ⟨#[]⟩, .int .i64 0, .int .i64 0, .int .i64 0, .int .i64 0, .int .i64 0, .int .i64 0, .int .i64 0, .int .i64 0] 26 w4) := HZ3.out.bt hb HZ3.out.lt (by omega)
  have HY4 : Hid (Blk (w.heap.size + 1) #[.string ⟨#[]⟩, .int .i64 0, .string ⟨#[]⟩, .int .i64 0, .int .i64 0, .int .i64 0, .int .i64 0] 24 w4) := HY3.out.bt hb HY3.out.lt (by omega)
  have hB4 : Below w.heap.size w w4 := hB3.trans (hb.below hB3.size (by omega))
  have HR4 := Hid.intro hr
  clear hr hb HZ3 HY3 hB3 HR3
  go_wp2_with fail
  refine (draw11_any p 1 ⟨#[99]⟩ c _ HR4.out (by omega) (by decide) (by omega) (by omega)).mono ?_
  rintro e w5 ⟨x, k, rfl, x0, x2, hk, hr, hb⟩
  have HZ5 : Hid (Blk w.heap.size #[.string ⟨#[]⟩, .int .i64 0, .string ⟨#[]⟩, .int .i64 0, .int .i64 0, .int .i64 0, .int .i64 0, .int .i64 0, .int .i64 0, .int .i64 0, .int .i64 0] 26 w5) := HZ4.out.bt hb HZ4.out.lt (by omega)
  have HY5 : Hid (Blk (w.heap.size + 1) #[.string ⟨#[]⟩, .int .i64 0, .string ⟨#[]⟩, .int .i64 0, .int .i64 0, .int .i64 0, .int .i64 0] 24 w5) := HY4.out.bt hb HY4.out.lt (by omega)
  have hB5 : Below w.heap.size w w5 := hB4.trans (hb.below hB4.size (by omega))
  have HR5 := Hid.intro hr
  clear hr hb HZ4 HY4 hB4 HR4
  have hpq : p < w5.heap.size := HR5.out.lt
  have HX6 : Hid (Blk w5.heap.size #[.string x.want.copy, .int .i64 x.want.version, .string x.want.hold, .int .i64 x.want.pull, .int .i64 x.want.start, .int .i64 x.want.dies, .int .i64 x.want.grace, .int .i64 x.state, .int .i64 x.left, .int .i64 x.falls, .int .i64 x.until_] 26 (w5.alloc (.cells #[.string x.want.copy, .int .i64 x.want.version, .string x.want.hold, .int .i64 x.want.pull, .int .i64 x.want.start, .int .i64 x.want.dies, .int .i64 x.want.grace, .int .i64 x.state, .int .i64 x.left, .int .i64 x.falls, .int .i64 x.until_] 26))) := Blk.alloc _ _ _
  have hb7 : Below w5.heap.size w5 ((w5.alloc (.cells #[.string x.want.copy, .int .i64 x.want.version, .string x.want.hold, .int .i64 x.want.pull, .int .i64 x.want.start, .int .i64 x.want.dies, .int .i64 x.want.grace, .int .i64 x.state, .int .i64 x.left, .int .i64 x.falls, .int .i64 x.until_] 26)).alloc (.cells #[.string x.want.copy, .int .i64 x.want.version, .string x.want.hold, .int .i64 x.want.pull, .int .i64 x.want.start, .int .i64 x.want.dies, .int .i64 x.want.grace] 24)) := by go_grown
  have HX7 : Hid (Blk w5.heap.size #[.string x.want.copy, .int .i64 x.want.version, .string x.want.hold, .int .i64 x.want.pull, .int .i64 x.want.start, .int .i64 x.want.dies, .int .i64 x.want.grace, .int .i64 x.state, .int .i64 x.left, .int .i64 x.falls, .int .i64 x.until_] 26 ((w5.alloc (.cells #[.string x.want.copy, .int .i64 x.want.version, .string x.want.hold, .int .i64 x.want.pull, .int .i64 x.want.start, .int .i64 x.want.dies, .int .i64 x.want.grace, .int .i64 x.state, .int .i64 x.left, .int .i64 x.falls, .int .i64 x.until_] 26)).alloc (.cells #[.string x.want.copy, .int .i64 x.want.version, .string x.want.hold, .int .i64 x.want.pull, .int .i64 x.want.start, .int .i64 x.want.dies, .int .i64 x.want.grace] 24))) := HX6.out.below ((Below.refl _ _).alloc (Nat.le_refl _) _) HX6.out.lt
  have HW7 : Hid (Blk (w5.heap.size + 1) #[.string x.want.copy, .int .i64 x.want.version, .string x.want.hold, .int .i64 x.want.pull, .int .i64 x.want.start, .int .i64 x.want.dies, .int .i64 x.want.grace] 24 ((w5.alloc (.cells #[.string x.want.copy, .int .i64 x.want.version, .string x.want.hold, .int .i64 x.want.pull, .int .i64 x.want.start, .int .i64 x.want.dies, .int .i64 x.want.grace, .int .i64 x.state, .int .i64 x.left, .int .i64 x.falls, .int .i64 x.until_] 26)).alloc (.cells #[.string x.want.copy, .int .i64 x.want.version, .string x.want.hold, .int .i64 x.want.pull, .int .i64 x.want.start, .int .i64 x.want.dies, .int .i64 x.want.grace] 24))) := by
    have := Blk.alloc (w5.alloc (.cells #[.string x.want.copy, .int .i64 x.want.version, .string x.want.hold, .int .i64 x.want.pull, .int .i64 x.want.start, .int .i64 x.want.dies, .int .i64 x.want.grace, .int .i64 x.state, .int .i64 x.left, .int .i64 x.falls, .int .i64 x.until_] 26)) #[.string x.want.copy, .int .i64 x.want.version, .string x.want.hold, .int .i64 x.want.pull, .int .i64 x.want.start, .int .i64 x.want.dies, .int .i64 x.want.grace] 24
    show Blk _ _ _ _
    simpa using this
  have HR7 : Hid (RdS p k ((w5.alloc (.cells #[.string x.want.copy, .int .i64 x.want.version, .string x.want.hold, .int .i64 x.want.pull, .int .i64 x.want.start, .int .i64 x.want.dies, .int .i64 x.want.grace, .int .i64 x.state, .int .i64 x.left, .int .i64 x.falls, .int .i64 x.until_] 26)).alloc (.cells #[.string x.want.copy, .int .i64 x.want.version, .string x.want.hold, .int .i64 x.want.pull, .int .i64 x.want.start, .int .i64 x.want.dies, .int .i64 x.want.grace] 24))) := HR5.out.below hb7 HR5.out.lt
  have HZ7 : Hid (Blk w.heap.size #[.string ⟨#[]⟩, .int .i64 0, .string ⟨#[]⟩, .int .i64 0, .int .i64 0, .int .i64 0, .int .i64 0, .int .i64 0, .int .i64 0, .int .i64 0, .int .i64 0] 26 ((w5.alloc (.cells #[.string x.want.copy, .int .i64 x.want.version, .string x.want.hold, .int .i64 x.want.pull, .int .i64 x.want.start, .int .i64 x.want.dies, .int .i64 x.want.grace, .int .i64 x.state, .int .i64 x.left, .int .i64 x.falls, .int .i64 x.until_] 26)).alloc (.cells #[.string x.want.copy, .int .i64 x.want.version, .string x.want.hold, .int .i64 x.want.pull, .int .i64 x.want.start, .int .i64 x.want.dies, .int .i64 x.want.grace] 24))) := HZ5.out.below hb7 HZ5.out.lt
  have HY7 : Hid (Blk (w.heap.size + 1) #[.string ⟨#[]⟩, .int .i64 0, .string ⟨#[]⟩, .int .i64 0, .int .i64 0, .int .i64 0, .int .i64 0] 24 ((w5.alloc (.cells #[.string x.want.copy, .int .i64 x.want.version, .string x.want.hold, .int .i64 x.want.pull, .int .i64 x.want.start, .int .i64 x.want.dies, .int .i64 x.want.grace, .int .i64 x.state, .int .i64 x.left, .int .i64 x.falls, .int .i64 x.until_] 26)).alloc (.cells #[.string x.want.copy, .int .i64 x.want.version, .string x.want.hold, .int .i64 x.want.pull, .int .i64 x.want.start, .int .i64 x.want.dies, .int .i64 x.want.grace] 24))) := HY5.out.below hb7 HY5.out.lt
  have hB7 : Below w.heap.size w ((w5.alloc (.cells #[.string x.want.copy, .int .i64 x.want.version, .string x.want.hold, .int .i64 x.want.pull, .int .i64 x.want.start, .int .i64 x.want.dies, .int .i64 x.want.grace, .int .i64 x.state, .int .i64 x.left, .int .i64 x.falls, .int .i64 x.until_] 26)).alloc (.cells #[.string x.want.copy, .int .i64 x.want.version, .string x.want.hold, .int .i64 x.want.pull, .int .i64 x.want.start, .int .i64 x.want.dies, .int .i64 x.want.grace] 24)) := hB5.trans (hb7.mono hB5.size)
  clear HR5 HZ5 HY5 hB5 hb7
  go_wp2_with (refine wpList_load_mid rfl 24 _ rfl w5.heap.size 0 rfl [.string x.want.copy, .int .i64 x.want.version, .string x.want.hold, .int .i64 x.want.pull, .int .i64 x.want.start, .int .i64 x.want.dies, .int .i64 x.want.grace] _ (range7 HX6.out.rangeA) Try.underlying24 rfl isz_Wnt ?_)
  clear HX6
  generalize (w5.alloc (Obj.cells #[.string x.want.copy, .int .i64 x.want.version, .string x.want.hold, .int .i64 x.want.pull, .int .i64 x.want.start, .int .i64 x.want.dies, .int .i64 x.want.grace, .int .i64 x.state, .int .i64 x.left, .int .i64 x.falls, .int .i64 x.until_] 26)).alloc (Obj.cells #[.string x.want.copy, .int .i64 x.want.version, .string x.want.hold, .int .i64 x.want.pull, .int .i64 x.want.start, .int .i64 x.want.dies, .int .i64 x.want.grace] 24) = w7 at *
  generalize w5.heap.size = q at *
  refine (pick_rd p k 8 _ HR7.out (by omega) (by omega) (by omega)).mono ?_
  rintro e w8 ⟨s8, rfl, hs8, hr, hb, -⟩
  have HZ8 : Hid (Blk w.heap.size #[.string ⟨#[]⟩, .int .i64 0, .string ⟨#[]⟩, .int .i64 0, .int .i64 0, .int .i64 0, .int .i64 0, .int .i64 0, .int .i64 0, .int .i64 0, .int .i64 0] 26 w8) := HZ7.out.bt hb HZ7.out.lt (by omega)
  have HY8 : Hid (Blk (w.heap.size + 1) #[.string ⟨#[]⟩, .int .i64 0, .string ⟨#[]⟩, .int .i64 0, .int .i64 0, .int .i64 0, .int .i64 0] 24 w8) := HY7.out.bt hb HY7.out.lt (by omega)
  have hB8 : Below w.heap.size w w8 := hB7.trans (hb.below hB7.size (by omega))
  have HR8 := Hid.intro hr
  have HX8 : Hid (Blk q #[.string x.want.copy, .int .i64 x.want.version, .string x.want.hold, .int .i64 x.want.pull, .int .i64 x.want.start, .int .i64 x.want.dies, .int .i64 x.want.grace, .int .i64 x.state, .int .i64 x.left, .int .i64 x.falls, .int .i64 x.until_] 26 w8) := HX7.out.bt hb HX7.out.lt (by omega)
  have HW8 : Hid (Blk (q + 1) #[.string x.want.copy, .int .i64 x.want.version, .string x.want.hold, .int .i64 x.want.pull, .int .i64 x.want.start, .int .i64 x.want.dies, .int .i64 x.want.grace] 24 w8) := HW7.out.bt hb HW7.out.lt (by omega)
  clear hr hb HZ7 HY7 hB7 HR7 HX7 HW7
  rcases (by omega : s8 = 0 ∨ s8 = 1 ∨ s8 = 2 ∨ s8 = 3 ∨ s8 = 4 ∨ s8 = 5 ∨ s8 = 6 ∨ s8 = 7) with rfl | rfl | rfl | rfl | rfl | rfl | rfl | rfl
  · go_wp2_with fail
    refine (drawWant_any p (k + 1) ⟨#[99]⟩ _ HR8.out (by omega)).mono ?_
    rintro e w9 ⟨y, rfl, -, -, -, hr, hb⟩
    have HZ9 : Hid (Blk w.heap.size #[.string ⟨#[]⟩, .int .i64 0, .string ⟨#[]⟩, .int .i64 0, .int .i64 0, .int .i64 0, .int .i64 0, .int .i64 0, .int .i64 0, .int .i64 0, .int .i64 0] 26 w9) := HZ8.out.bt hb HZ8.out.lt (by omega)
    have HY9 : Hid (Blk (w.heap.size + 1) #[.string ⟨#[]⟩, .int .i64 0, .string ⟨#[]⟩, .int .i64 0, .int .i64 0, .int .i64 0, .int .i64 0] 24 w9) := HY8.out.bt hb HY8.out.lt (by omega)
    have hB9 : Below w.heap.size w w9 := hB8.trans (hb.below hB8.size (by omega))
    have HR9 := Hid.intro hr
    have HX9 : Hid (Blk q #[.string x.want.copy, .int .i64 x.want.version, .string x.want.hold, .int .i64 x.want.pull, .int .i64 x.want.start, .int .i64 x.want.dies, .int .i64 x.want.grace, .int .i64 x.state, .int .i64 x.left, .int .i64 x.falls, .int .i64 x.until_] 26 w9) := HX8.out.bt hb HX8.out.lt (by omega)
    have HW9 : Hid (Blk (q + 1) #[.string x.want.copy, .int .i64 x.want.version, .string x.want.hold, .int .i64 x.want.pull, .int .i64 x.want.start, .int .i64 x.want.dies, .int .i64 x.want.grace] 24 w9) := HW8.out.bt hb HW8.out.lt (by omega)
    clear hr hb HZ8 HY8 hB8 HR8 HX8 HW8
    have HTW := Hid.intro HW9.out.there
    obtain ⟨w10, HE⟩ : ∃ w10, Hid (w10 = (w9.setCells (q + 1) 0 [.string y.copy, .int .i64 y.version, .string y.hold, .int .i64 y.pull, .int .i64 y.start, .int .i64 y.dies, .int .i64 y.grace])) := ⟨_, rfl⟩
    have HW10 : Hid (Blk (q + 1) #[.string y.copy, .int .i64 y.version, .string y.hold, .int .i64 y.pull, .int .i64 y.start, .int .i64 y.dies, .int .i64 y.grace] 24 w10) := by
      show Blk _ _ _ _
      rw [HE.out]
      exact HW9.out.setAll #[.string y.copy, .int .i64 y.version, .string y.hold, .int .i64 y.pull, .int .i64 y.start, .int .i64 y.dies, .int .i64 y.grace] rfl
    have HX10 : Hid (Blk q #[.string x.want.copy, .int .i64 x.want.version, .string x.want.hold, .int .i64 x.want.pull, .int .i64 x.want.start, .int .i64 x.want.dies, .int .i64 x.want.grace, .int .i64 x.state, .int .i64 x.left, .int .i64 x.falls, .int .i64 x.until_] 26 w10) := by
      show Blk _ _ _ _
      rw [HE.out]
      exact blk_setCells_other (by omega) _ _ _ HX9.out
    have HZ10 : Hid (Blk w.heap.size #[.string ⟨#[]⟩, .int .i64 0, .string ⟨#[]⟩, .int .i64 0, .int .i64 0, .int .i64 0, .int .i64 0, .int .i64 0, .int .i64 0, .int .i64 0, .int .i64 0] 26 w10) := by
      show Blk _ _ _ _
      rw [HE.out]
      exact blk_setCells_other (by omega) _ _ _ HZ9.out
    have HY10 : Hid (Blk (w.heap.size + 1) #[.string ⟨#[]⟩, .int .i64 0, .string ⟨#[]⟩, .int .i64 0, .int .i64 0, .int .i64 0, .int .i64 0] 24 w10) := by
      show Blk _ _ _ _
      rw [HE.out]
      exact blk_setCells_other (by omega) _ _ _ HY9.out
    have hB10 : Below w.heap.size w w10 := by
      rw [HE.out]
      exact hB9.trans (below_setCells (by omega) _ _ _ (Below.refl _ _))
    have HR10 := HR9
    clear HR9 HX9 HW9 HZ9 HY9 hB9
    go_wp2_with (refine wpList_store_to rfl 24 _ _ rfl (q + 1) 0 #[.string y.copy, .int .i64 y.version, .string y.hold, .int .i64 y.pull, .int .i64 y.start, .int .i64 y.dies, .int .i64 y.grace] rfl rfl HTW.out isz_Wnt (by simp [Value.oneCell']) w10 HE.out ?_)
    clear HE HTW
    clear HR10
    go_upto_region 16 with fail
    refine wp_region_held_drew (S := fun wy => Blk q #[.string x.want.copy, .int .i64 x.want.version, .string x.want.hold, .int .i64 x.want.pull, .int .i64 x.want.start, .int .i64 x.want.dies, .int .i64 x.want.grace, .int .i64 x.state, .int .i64 x.left, .int .i64 x.falls, .int .i64 x.until_] 26 wy ∧ Blk (q + 1) #[.string y.copy, .int .i64 y.version, .string y.hold, .int .i64 y.pull, .int .i64 y.start, .int .i64 y.dies, .int .i64 y.grace] 24 wy) (by kernel_rfl) ⟨HX10.out.drew, HW10.out.drew⟩ (fun hS => ?_)
    have hBd : Below w.heap.size w w10.drew := hB10.trans ((Below.refl w.heap.size w10).drew)
    have HZd : Hid (Blk w.heap.size #[.string ⟨#[]⟩, .int .i64 0, .string ⟨#[]⟩, .int .i64 0, .int .i64 0, .int .i64 0, .int .i64 0, .int .i64 0, .int .i64 0, .int .i64 0, .int .i64 0] 26 w10.drew) := HZ10.out.drew
    have HYd : Hid (Blk (w.heap.size + 1) #[.string ⟨#[]⟩, .int .i64 0, .string ⟨#[]⟩, .int .i64 0, .int .i64 0, .int .i64 0, .int .i64 0] 24 w10.drew) := HY10.out.drew
    generalize w10.drew = wd at *
    refine wpAnyH_take (i := 0) (oi := { dst := some 43, op := _, type := _, pos := _, after := _, guard := none }) (v := .agg #[.string x.want.copy, .int .i64 x.want.version, .string x.want.hold, .int .i64 x.want.pull, .int .i64 x.want.start, .int .i64 x.want.dies, .int .i64 x.want.grace, .int .i64 x.state, .int .i64 x.left, .int .i64 x.falls, .int .i64 x.until_]) rfl (by kernel_rfl) (by kernel_rfl) (by kernel_rfl) (fun _ _ _ h => h) (yieldsIf_load_mid (by rfl) _ _ rfl q (0) rfl [.string x.want.copy, .int .i64 x.want.version, .string x.want.hold, .int .i64 x.want.pull, .int .i64 x.want.start, .int .i64 x.want.dies, .int .i64 x.want.grace, .int .i64 x.state, .int .i64 x.left, .int .i64 x.falls, .int .i64 x.until_] _ (fun _ h => h.1.rangeA) Try.underlying26 rfl isz_Rn) hS ?_
    simp only [Act.put, List.setIfInBounds_toArray, List.set_cons_zero, List.set_cons_succ]
    refine wpAnyH_take (i := 1) (oi := { dst := some 44, op := _, type := _, pos := _, after := _, guard := none }) (v := .agg #[.string y.copy, .int .i64 y.version, .string y.hold, .int .i64 y.pull, .int .i64 y.start, .int .i64 y.dies, .int .i64 y.grace]) rfl (by kernel_rfl) (by kernel_rfl) (by kernel_rfl) (fun _ _ _ h => h) (yieldsIf_load_mid (by rfl) _ _ rfl (q + 1) (0) rfl [.string y.copy, .int .i64 y.version, .string y.hold, .int .i64 y.pull, .int .i64 y.start, .int .i64 y.dies, .int .i64 y.grace] _ (fun _ h => h.2.rangeA) Try.underlying24 rfl isz_Wnt) hS ?_
    simp only [Act.put, List.setIfInBounds_toArray, List.set_cons_zero, List.set_cons_succ]
    refine wpAnyH_take (i := 2) (oi := { dst := some 45, op := _, type := _, pos := _, after := _, guard := none }) (v := .int .i64 (c : Int)) rfl (by kernel_rfl) (by kernel_rfl) (by kernel_rfl) (fun _ _ _ h => h) (Or.inl ⟨by rfl, ?_⟩) hS ?_
    · intro wy hy
      clear hy
      go_simp
    simp only [Act.put, List.setIfInBounds_toArray, List.set_cons_zero, List.set_cons_succ]
    refine wpAnyH_ready (rs := [3]) (by kernel_rfl) (by simp) (AllReadyH.cons (o := { dst := none, op := _, type := _, pos := _, after := _, guard := none }) rfl (fun K hK => ?_) AllReadyH.nil)
    rw [if_pos (by rfl)]
    refine wp_store_mid 26 (.tmp 2) (.tmp 43) (by rfl) w.heap.size 0 #[.string x.want.copy, .int .i64 x.want.version, .string x.want.hold, .int .i64 x.want.pull, .int .i64 x.want.start, .int .i64 x.want.dies, .int .i64 x.want.grace, .int .i64 x.state, .int .i64 x.left, .int .i64 x.falls, .int .i64 x.until_] (by rfl) (by rfl) HZd.out.there isz_Rn (by simp [Value.oneCell']) ?_
    have HZe : Hid (Blk w.heap.size #[.string x.want.copy, .int .i64 x.want.version, .string x.want.hold, .int .i64 x.want.pull, .int .i64 x.want.start, .int .i64 x.want.dies, .int .i64 x.want.grace, .int .i64 x.state, .int .i64 x.left, .int .i64 x.falls, .int .i64 x.until_] 26 (wd.setCells w.heap.size 0 [.string x.want.copy, .int .i64 x.want.version, .string x.want.hold, .int .i64 x.want.pull, .int .i64 x.want.start, .int .i64 x.want.dies, .int .i64 x.want.grace, .int .i64 x.state, .int .i64 x.left, .int .i64 x.falls, .int .i64 x.until_])) := HZd.out.setAll #[.string x.want.copy, .int .i64 x.want.version, .string x.want.hold, .int .i64 x.want.pull, .int .i64 x.want.start, .int .i64 x.want.dies, .int .i64 x.want.grace, .int .i64 x.state, .int .i64 x.left, .int .i64 x.falls, .int .i64 x.until_] rfl
    have HYe : Hid (Blk (w.heap.size + 1) #[.string ⟨#[]⟩, .int .i64 0, .string ⟨#[]⟩, .int .i64 0, .int .i64 0, .int .i64 0, .int .i64 0] 24 (wd.setCells w.heap.size 0 [.string x.want.copy, .int .i64 x.want.version, .string x.want.hold, .int .i64 x.want.pull, .int .i64 x.want.start, .int .i64 x.want.dies, .int .i64 x.want.grace, .int .i64 x.state, .int .i64 x.left, .int .i64 x.falls, .int .i64 x.until_])) := blk_setCells_other (by omega) _ _ _ HYd.out
    have hbs : Below w.heap.size wd (wd.setCells w.heap.size 0 [.string x.want.copy, .int .i64 x.want.version, .string x.want.hold, .int .i64 x.want.pull, .int .i64 x.want.start, .int .i64 x.want.dies, .int .i64 x.want.grace, .int .i64 x.state, .int .i64 x.left, .int .i64 x.falls, .int .i64 x.until_]) := below_setCells (by omega) _ _ _ (Below.refl _ _)
    have hBe := hBd.trans hbs
    refine hK.out _ _ ⟨blk_setCells_other (by omega) _ _ _ hS.1, blk_setCells_other (by omega) _ _ _ hS.2⟩ (fun hS => ?_)
    clear hK K hbs
    generalize (wd.setCells w.heap.size 0 [.string x.want.copy, .int .i64 x.want.version, .string x.want.hold, .int .i64 x.want.pull, .int .i64 x.want.start, .int .i64 x.want.dies, .int .i64 x.want.grace, .int .i64 x.state, .int .i64 x.left, .int .i64 x.falls, .int .i64 x.until_]) = we at *
    refine wpAnyH_ready (rs := [4]) (by kernel_rfl) (by simp) (AllReadyH.cons (o := { dst := none, op := _, type := _, pos := _, after := _, guard := none }) rfl (fun K hK => ?_) AllReadyH.nil)
    rw [if_pos (by rfl)]
    refine wp_store_mid 24 (.tmp 3) (.tmp 44) (by rfl) (w.heap.size + 1) 0 #[.string y.copy, .int .i64 y.version, .string y.hold, .int .i64 y.pull, .int .i64 y.start, .int .i64 y.dies, .int .i64 y.grace] (by rfl) (by rfl) HYe.out.there isz_Wnt (by simp [Value.oneCell']) ?_
    have HYf : Hid (Blk (w.heap.size + 1) #[.string y.copy, .int .i64 y.version, .string y.hold, .int .i64 y.pull, .int .i64 y.start, .int .i64 y.dies, .int .i64 y.grace] 24 (we.setCells (w.heap.size + 1) 0 [.string y.copy, .int .i64 y.version, .string y.hold, .int .i64 y.pull, .int .i64 y.start, .int .i64 y.dies, .int .i64 y.grace])) := HYe.out.setAll #[.string y.copy, .int .i64 y.version, .string y.hold, .int .i64 y.pull, .int .i64 y.start, .int .i64 y.dies, .int .i64 y.grace] rfl
    have HZf : Hid (Blk w.heap.size #[.string x.want.copy, .int .i64 x.want.version, .string x.want.hold, .int .i64 x.want.pull, .int .i64 x.want.start, .int .i64 x.want.dies, .int .i64 x.want.grace, .int .i64 x.state, .int .i64 x.left, .int .i64 x.falls, .int .i64 x.until_] 26 (we.setCells (w.heap.size + 1) 0 [.string y.copy, .int .i64 y.version, .string y.hold, .int .i64 y.pull, .int .i64 y.start, .int .i64 y.dies, .int .i64 y.grace])) := blk_setCells_other (by omega) _ _ _ HZe.out
    have hbs : Below w.heap.size we (we.setCells (w.heap.size + 1) 0 [.string y.copy, .int .i64 y.version, .string y.hold, .int .i64 y.pull, .int .i64 y.start, .int .i64 y.dies, .int .i64 y.grace]) := below_setCells (by omega) _ _ _ (Below.refl _ _)
    have hBf := hBe.trans hbs
    refine hK.out _ _ ⟨blk_setCells_other (by omega) _ _ _ hS.1, blk_setCells_other (by omega) _ _ _ hS.2⟩ (fun hS => ?_)
    clear hK K hbs
    generalize (we.setCells (w.heap.size + 1) 0 [.string y.copy, .int .i64 y.version, .string y.hold, .int .i64 y.pull, .int .i64 y.start, .int .i64 y.dies, .int .i64 y.grace]) = wf at *
    refine wpAnyH_take (i := 5) (oi := { dst := some 4, op := _, type := _, pos := _, after := _, guard := none }) (v := .bool true) rfl (by kernel_rfl) (by kernel_rfl) (by kernel_rfl) (fun _ _ _ h => h) (Or.inl ⟨by rfl, ?_⟩) hS ?_
    · intro wy hy
      clear hy
      go_simp
    simp only [Act.put, List.setIfInBounds_toArray, List.set_cons_zero, List.set_cons_succ]
    refine wpAnyH_take (i := 6) (oi := { dst := some 5, op := _, type := _, pos := _, after := _, guard := none }) (v := .int .i64 (c : Int)) rfl (by kernel_rfl) (by kernel_rfl) (by kernel_rfl) (fun _ _ _ h => h) (Or.inl ⟨by rfl, ?_⟩) hS ?_
    · intro wy hy
      clear hy
      go_simp
    simp only [Act.put, List.setIfInBounds_toArray, List.set_cons_zero, List.set_cons_succ]
    refine wpAnyH_done (by kernel_rfl) ?_ _
    clear hS
    go_wp2_with fail
    exact bodyPost_ret (results_cells4 rfl _ _ w.heap.size [.string x.want.copy, .int .i64 x.want.version, .string x.want.hold, .int .i64 x.want.pull, .int .i64 x.want.start, .int .i64 x.want.dies, .int .i64 x.want.grace, .int .i64 x.state, .int .i64 x.left, .int .i64 x.falls, .int .i64 x.until_] _ (w.heap.size + 1) [.string y.copy, .int .i64 y.version, .string y.hold, .int .i64 y.pull, .int .i64 y.start, .int .i64 y.dies, .int .i64 y.grace] _ rfl HZf.out.rangeA Try.underlying26 rfl isz_Rn rfl HYf.out.rangeA Try.underlying24 rfl isz_Wnt) rfl ⟨x, y, true, (c : Int), rfl, x0, x2, by omega, by omega, hBf⟩
  · have HTZ := Hid.intro HZ8.out.there
    obtain ⟨w9, HE⟩ : ∃ w9, Hid (w9 = w8.setCells w.heap.size 0 [.string x.want.copy, .int .i64 x.want.version, .string x.want.hold, .int .i64 x.want.pull, .int .i64 x.want.start, .int .i64 x.want.dies, .int .i64 x.want.grace, .int .i64 x.state, .int .i64 x.left, .int .i64 x.falls, .int .i64 x.until_]) := ⟨_, rfl⟩
    have HZ9 : Hid (Blk w.heap.size #[.string x.want.copy, .int .i64 x.want.version, .string x.want.hold, .int .i64 x.want.pull, .int .i64 x.want.start, .int .i64 x.want.dies, .int .i64 x.want.grace, .int .i64 x.state, .int .i64 x.left, .int .i64 x.falls, .int .i64 x.until_] 26 w9) := by
      show Blk _ _ _ _
      rw [HE.out]
      exact HZ8.out.setAll #[.string x.want.copy, .int .i64 x.want.version, .string x.want.hold, .int .i64 x.want.pull, .int .i64 x.want.start, .int .i64 x.want.dies, .int .i64 x.want.grace, .int .i64 x.state, .int .i64 x.left, .int .i64 x.falls, .int .i64 x.until_] rfl
    have HY9 : Hid (Blk (w.heap.size + 1) #[.string ⟨#[]⟩, .int .i64 0, .string ⟨#[]⟩, .int .i64 0, .int .i64 0, .int .i64 0, .int .i64 0] 24 w9) := by
      show Blk _ _ _ _
      rw [HE.out]
      exact blk_setCells_other (by omega) _ _ _ HY8.out
    have hB9 : Below w.heap.size w w9 := by
      rw [HE.out]
      exact hB8.trans (below_setCells (by omega) _ _ _ (Below.refl _ _))
    have HTY := Hid.intro HY9.out.there
    obtain ⟨w10, HE2⟩ : ∃ w10, Hid (w10 = w9.setCells (w.heap.size + 1) 0 [.string ⟨#[]⟩, .int .i64 0, .string ⟨#[]⟩, .int .i64 0, .int .i64 0, .int .i64 0, .int .i64 0]) := ⟨_, rfl⟩
    have HY10 : Hid (Blk (w.heap.size + 1) #[.string ⟨#[]⟩, .int .i64 0, .string ⟨#[]⟩, .int .i64 0, .int .i64 0, .int .i64 0, .int .i64 0] 24 w10) := by
      show Blk _ _ _ _
      rw [HE2.out]
      exact HY9.out.setAll #[.string ⟨#[]⟩, .int .i64 0, .string ⟨#[]⟩, .int .i64 0, .int .i64 0, .int .i64 0, .int .i64 0] rfl
    have HZ10 : Hid (Blk w.heap.size #[.string x.want.copy, .int .i64 x.want.version, .string x.want.hold, .int .i64 x.want.pull, .int .i64 x.want.start, .int .i64 x.want.dies, .int .i64 x.want.grace, .int .i64 x.state, .int .i64 x.left, .int .i64 x.falls, .int .i64 x.until_] 26 w10) := by
      show Blk _ _ _ _
      rw [HE2.out]
      exact blk_setCells_other (by omega) _ _ _ HZ9.out
    have hB10 : Below w.heap.size w w10 := by
      rw [HE2.out]
      exact hB9.trans (below_setCells (by omega) _ _ _ (Below.refl _ _))
    clear HR8 HZ8 HY8 hB8 HZ9 HY9 hB9
    go_wp2_with (first | (refine wpList_load_mid rfl 26 _ rfl q 0 rfl [.string x.want.copy, .int .i64 x.want.version, .string x.want.hold, .int .i64 x.want.pull, .int .i64 x.want.start, .int .i64 x.want.dies, .int .i64 x.want.grace, .int .i64 x.state, .int .i64 x.left, .int .i64 x.falls, .int .i64 x.until_] _ HX8.out.rangeA Try.underlying26 rfl isz_Rn ?_) | (refine wpList_store_to rfl 26 _ _ rfl w.heap.size 0 #[.string x.want.copy, .int .i64 x.want.version, .string x.want.hold, .int .i64 x.want.pull, .int .i64 x.want.start, .int .i64 x.want.dies, .int .i64 x.want.grace, .int .i64 x.state, .int .i64 x.left, .int .i64 x.falls, .int .i64 x.until_] rfl rfl HTZ.out isz_Rn (by simp [Value.oneCell']) w9 HE.out ?_) | (refine wpList_store_to rfl 24 _ _ rfl (w.heap.size + 1) 0 #[.string ⟨#[]⟩, .int .i64 0, .string ⟨#[]⟩, .int .i64 0, .int .i64 0, .int .i64 0, .int .i64 0] rfl rfl HTY.out isz_Wnt (by simp [Value.oneCell']) w10 HE2.out ?_))
    exact bodyPost_ret (results_cells4 rfl _ _ w.heap.size [.string x.want.copy, .int .i64 x.want.version, .string x.want.hold, .int .i64 x.want.pull, .int .i64 x.want.start, .int .i64 x.want.dies, .int .i64 x.want.grace, .int .i64 x.state, .int .i64 x.left, .int .i64 x.falls, .int .i64 x.until_] _ (w.heap.size + 1) [.string ⟨#[]⟩, .int .i64 0, .string ⟨#[]⟩, .int .i64 0, .int .i64 0, .int .i64 0, .int .i64 0] _ rfl HZ10.out.rangeA Try.underlying26 rfl isz_Rn rfl HY10.out.rangeA Try.underlying24 rfl isz_Wnt) rfl ⟨x, ⟨⟨#[]⟩, 0, ⟨#[]⟩, 0, 0, 0, 0⟩, false, (c : Int), rfl, x0, x2, by omega, by omega, hB10⟩
  · go_wp2_with (refine wpList_load_mid rfl 26 _ rfl q 0 rfl [.string x.want.copy, .int .i64 x.want.version, .string x.want.hold, .int .i64 x.want.pull, .int .i64 x.want.start, .int .i64 x.want.dies, .int .i64 x.want.grace, .int .i64 x.state, .int .i64 x.left, .int .i64 x.falls, .int .i64 x.until_] _ HX8.out.rangeA Try.underlying26 rfl isz_Rn ?_)
    refine (spoilRun_any p (k + 1) x _ HR8.out (by omega) x0 x2).mono ?_
    rintro e w9 ⟨r, k2, rfl, r0, r2, hk2, hr, hb⟩
    have HZ9 : Hid (Blk w.heap.size #[.string ⟨#[]⟩, .int .i64 0, .string ⟨#[]⟩, .int .i64 0, .int .i64 0, .int .i64 0, .int .i64 0, .int .i64 0, .int .i64 0, .int .i64 0, .int .i64 0] 26 w9) := HZ8.out.bt hb HZ8.out.lt (by omega)
    have HY9 : Hid (Blk (w.heap.size + 1) #[.string ⟨#[]⟩, .int .i64 0, .string ⟨#[]⟩, .int .i64 0, .int .i64 0, .int .i64 0, .int .i64 0] 24 w9) := HY8.out.bt hb HY8.out.lt (by omega)
    have hB9 : Below w.heap.size w w9 := hB8.trans (hb.below hB8.size (by omega))
    have HR9 := Hid.intro hr
    have HX9 : Hid (Blk q #[.string x.want.copy, .int .i64 x.want.version, .string x.want.hold, .int .i64 x.want.pull, .int .i64 x.want.start, .int .i64 x.want.dies, .int .i64 x.want.grace, .int .i64 x.state, .int .i64 x.left, .int .i64 x.falls, .int .i64 x.until_] 26 w9) := HX8.out.bt hb HX8.out.lt (by omega)
    have HW9 : Hid (Blk (q + 1) #[.string x.want.copy, .int .i64 x.want.version, .string x.want.hold, .int .i64 x.want.pull, .int .i64 x.want.start, .int .i64 x.want.dies, .int .i64 x.want.grace] 24 w9) := HW8.out.bt hb HW8.out.lt (by omega)
    clear hr hb HZ8 HY8 hB8 HR8 HX8 HW8
    have HTX := Hid.intro HX9.out.there
    obtain ⟨w10, HE⟩ : ∃ w10, Hid (w10 = w9.setCells q 0 [.string r.want.copy, .int .i64 r.want.version, .string r.want.hold, .int .i64 r.want.pull, .int .i64 r.want.start, .int .i64 r.want.dies, .int .i64 r.want.grace, .int .i64 r.state, .int .i64 r.left, .int .i64 r.falls, .int .i64 r.until_]) := ⟨_, rfl⟩
    have HX10 : Hid (Blk q #[.string r.want.copy, .int .i64 r.want.version, .string r.want.hold, .int .i64 r.want.pull, .int .i64 r.want.start, .int .i64 r.want.dies, .int .i64 r.want.grace, .int .i64 r.state, .int .i64 r.left, .int .i64 r.falls, .int .i64 r.until_] 26 w10) := by
      show Blk _ _ _ _
      rw [HE.out]
      exact HX9.out.setAll #[.string r.want.copy, .int .i64 r.want.version, .string r.want.hold, .int .i64 r.want.pull, .int .i64 r.want.start, .int .i64 r.want.dies, .int .i64 r.want.grace, .int .i64 r.state, .int .i64 r.left, .int .i64 r.falls, .int .i64 r.until_] rfl
    have HW10 : Hid (Blk (q + 1) #[.string x.want.copy, .int .i64 x.want.version, .string x.want.hold, .int .i64 x.want.pull, .int .i64 x.want.start, .int .i64 x.want.dies, .int .i64 x.want.grace] 24 w10) := by
      show Blk _ _ _ _
      rw [HE.out]
      exact blk_setCells_other (by omega) _ _ _ HW9.out
    have HZ10 : Hid (Blk w.heap.size #[.string ⟨#[]⟩, .int .i64 0, .string ⟨#[]⟩, .int .i64 0, .int .i64 0, .int .i64 0, .int .i64 0, .int .i64 0, .int .i64 0, .int .i64 0, .int .i64 0] 26 w10) := by
      show Blk _ _ _ _
      rw [HE.out]
      exact blk_setCells_other (by omega) _ _ _ HZ9.out
    have HY10 : Hid (Blk (w.heap.size + 1) #[.string ⟨#[]⟩, .int .i64 0, .string ⟨#[]⟩, .int .i64 0, .int .i64 0, .int .i64 0, .int .i64 0] 24 w10) := by
      show Blk _ _ _ _
      rw [HE.out]
      exact blk_setCells_other (by omega) _ _ _ HY9.out
    have hB10 : Below w.heap.size w w10 := by
      rw [HE.out]
      exact hB9.trans (below_setCells (by omega) _ _ _ (Below.refl _ _))
    have HR10 := HR9
    clear HR9 HX9 HW9 HZ9 HY9 hB9
    go_wp2_with (refine wpList_store_to rfl 26 _ _ rfl q 0 #[.string r.want.copy, .int .i64 r.want.version, .string r.want.hold, .int .i64 r.want.pull, .int .i64 r.want.start, .int .i64 r.want.dies, .int .i64 r.want.grace, .int .i64 r.state, .int .i64 r.left, .int .i64 r.falls, .int .i64 r.until_] rfl rfl HTX.out isz_Rn (by simp [Value.oneCell']) w10 HE.out ?_)
    clear HE HTX
    clear HR10
    go_upto_region 16 with fail
    refine wp_region_held_drew (S := fun wy => Blk q #[.string r.want.copy, .int .i64 r.want.version, .string r.want.hold, .int .i64 r.want.pull, .int .i64 r.want.start, .int .i64 r.want.dies, .int .i64 r.want.grace, .int .i64 r.state, .int .i64 r.left, .int .i64 r.falls, .int .i64 r.until_] 26 wy ∧ Blk (q + 1) #[.string x.want.copy, .int .i64 x.want.version, .string x.want.hold, .int .i64 x.want.pull, .int .i64 x.want.start, .int .i64 x.want.dies, .int .i64 x.want.grace] 24 wy) (by kernel_rfl) ⟨HX10.out.drew, HW10.out.drew⟩ (fun hS => ?_)
    have hBd : Below w.heap.size w w10.drew := hB10.trans ((Below.refl w.heap.size w10).drew)
    have HZd : Hid (Blk w.heap.size #[.string ⟨#[]⟩, .int .i64 0, .string ⟨#[]⟩, .int .i64 0, .int .i64 0, .int .i64 0, .int .i64 0, .int .i64 0, .int .i64 0, .int .i64 0, .int .i64 0] 26 w10.drew) := HZ10.out.drew
    have HYd : Hid (Blk (w.heap.size + 1) #[.string ⟨#[]⟩, .int .i64 0, .string ⟨#[]⟩, .int .i64 0, .int .i64 0, .int .i64 0, .int .i64 0] 24 w10.drew) := HY10.out.drew
    generalize w10.drew = wd at *
    refine wpAnyH_take (i := 0) (oi := { dst := some 43, op := _, type := _, pos := _, after := _, guard := none }) (v := .agg #[.string r.want.copy, .int .i64 r.want.version, .string r.want.hold, .int .i64 r.want.pull, .int .i64 r.want.start, .int .i64 r.want.dies, .int .i64 r.want.grace, .int .i64 r.state, .int .i64 r.left, .int .i64 r.falls, .int .i64 r.until_]) rfl (by kernel_rfl) (by kernel_rfl) (by kernel_rfl) (fun _ _ _ h => h) (yieldsIf_load_mid (by rfl) _ _ rfl q (0) rfl [.string r.want.copy, .int .i64 r.want.version, .string r.want.hold, .int .i64 r.want.pull, .int .i64 r.want.start, .int .i64 r.want.dies, .int .i64 r.want.grace, .int .i64 r.state, .int .i64 r.left, .int .i64 r.falls, .int .i64 r.until_] _ (fun _ h => h.1.rangeA) Try.underlying26 rfl isz_Rn) hS ?_
    simp only [Act.put, List.setIfInBounds_toArray, List.set_cons_zero, List.set_cons_succ]
    refine wpAnyH_take (i := 1) (oi := { dst := some 44, op := _, type := _, pos := _, after := _, guard := none }) (v := .agg #[.string x.want.copy, .int .i64 x.want.version, .string x.want.hold, .int .i64 x.want.pull, .int .i64 x.want.start, .int .i64 x.want.dies, .int .i64 x.want.grace]) rfl (by kernel_rfl) (by kernel_rfl) (by kernel_rfl) (fun _ _ _ h => h) (yieldsIf_load_mid (by rfl) _ _ rfl (q + 1) (0) rfl [.string x.want.copy, .int .i64 x.want.version, .string x.want.hold, .int .i64 x.want.pull, .int .i64 x.want.start, .int .i64 x.want.dies, .int .i64 x.want.grace] _ (fun _ h => h.2.rangeA) Try.underlying24 rfl isz_Wnt) hS ?_
    simp only [Act.put, List.setIfInBounds_toArray, List.set_cons_zero, List.set_cons_succ]
    refine wpAnyH_take (i := 2) (oi := { dst := some 45, op := _, type := _, pos := _, after := _, guard := none }) (v := .int .i64 (c : Int)) rfl (by kernel_rfl) (by kernel_rfl) (by kernel_rfl) (fun _ _ _ h => h) (Or.inl ⟨by rfl, ?_⟩) hS ?_
    · intro wy hy
      clear hy
      go_simp
    simp only [Act.put, List.setIfInBounds_toArray, List.set_cons_zero, List.set_cons_succ]
    refine wpAnyH_ready (rs := [3]) (by kernel_rfl) (by simp) (AllReadyH.cons (o := { dst := none, op := _, type := _, pos := _, after := _, guard := none }) rfl (fun K hK => ?_) AllReadyH.nil)
    rw [if_pos (by rfl)]
    refine wp_store_mid 26 (.tmp 2) (.tmp 43) (by rfl) w.heap.size 0 #[.string r.want.copy, .int .i64 r.want.version, .string r.want.hold, .int .i64 r.want.pull, .int .i64 r.want.start, .int .i64 r.want.dies, .int .i64 r.want.grace, .int .i64 r.state, .int .i64 r.left, .int .i64 r.falls, .int .i64 r.until_] (by rfl) (by rfl) HZd.out.there isz_Rn (by simp [Value.oneCell']) ?_
    have HZe : Hid (Blk w.heap.size #[.string r.want.copy, .int .i64 r.want.version, .string r.want.hold, .int .i64 r.want.pull, .int .i64 r.want.start, .int .i64 r.want.dies, .int .i64 r.want.grace, .int .i64 r.state, .int .i64 r.left, .int .i64 r.falls, .int .i64 r.until_] 26 (wd.setCells w.heap.size 0 [.string r.want.copy, .int .i64 r.want.version, .string r.want.hold, .int .i64 r.want.pull, .int .i64 r.want.start, .int .i64 r.want.dies, .int .i64 r.want.grace, .int .i64 r.state, .int .i64 r.left, .int .i64 r.falls, .int .i64 r.until_])) := HZd.out.setAll #[.string r.want.copy, .int .i64 r.want.version, .string r.want.hold, .int .i64 r.want.pull, .int .i64 r.want.start, .int .i64 r.want.dies, .int .i64 r.want.grace, .int .i64 r.state, .int .i64 r.left, .int .i64 r.falls, .int .i64 r.until_] rfl
    have HYe : Hid (Blk (w.heap.size + 1) #[.string ⟨#[]⟩, .int .i64 0, .string ⟨#[]⟩, .int .i64 0, .int .i64 0, .int .i64 0, .int .i64 0] 24 (wd.setCells w.heap.size 0 [.string r.want.copy, .int .i64 r.want.version, .string r.want.hold, .int .i64 r.want.pull, .int .i64 r.want.start, .int .i64 r.want.dies, .int .i64 r.want.grace, .int .i64 r.state, .int .i64 r.left, .int .i64 r.falls, .int .i64 r.until_])) := blk_setCells_other (by omega) _ _ _ HYd.out
    have hbs : Below w.heap.size wd (wd.setCells w.heap.size 0 [.string r.want.copy, .int .i64 r.want.version, .string r.want.hold, .int .i64 r.want.pull, .int .i64 r.want.start, .int .i64 r.want.dies, .int .i64 r.want.grace, .int .i64 r.state, .int .i64 r.left, .int .i64 r.falls, .int .i64 r.until_]) := below_setCells (by omega) _ _ _ (Below.refl _ _)
    have hBe := hBd.trans hbs
    refine hK.out _ _ ⟨blk_setCells_other (by omega) _ _ _ hS.1, blk_setCells_other (by omega) _ _ _ hS.2⟩ (fun hS => ?_)
    clear hK K hbs
    generalize (wd.setCells w.heap.size 0 [.string r.want.copy, .int .i64 r.want.version, .string r.want.hold, .int .i64 r.want.pull, .int .i64 r.want.start, .int .i64 r.want.dies, .int .i64 r.want.grace, .int .i64 r.state, .int .i64 r.left, .int .i64 r.falls, .int .i64 r.until_]) = we at *
    refine wpAnyH_ready (rs := [4]) (by kernel_rfl) (by simp) (AllReadyH.cons (o := { dst := none, op := _, type := _, pos := _, after := _, guard := none }) rfl (fun K hK => ?_) AllReadyH.nil)
    rw [if_pos (by rfl)]
    refine wp_store_mid 24 (.tmp 3) (.tmp 44) (by rfl) (w.heap.size + 1) 0 #[.string x.want.copy, .int .i64 x.want.version, .string x.want.hold, .int .i64 x.want.pull, .int .i64 x.want.start, .int .i64 x.want.dies, .int .i64 x.want.grace] (by rfl) (by rfl) HYe.out.there isz_Wnt (by simp [Value.oneCell']) ?_
    have HYf : Hid (Blk (w.heap.size + 1) #[.string x.want.copy, .int .i64 x.want.version, .string x.want.hold, .int .i64 x.want.pull, .int .i64 x.want.start, .int .i64 x.want.dies, .int .i64 x.want.grace] 24 (we.setCells (w.heap.size + 1) 0 [.string x.want.copy, .int .i64 x.want.version, .string x.want.hold, .int .i64 x.want.pull, .int .i64 x.want.start, .int .i64 x.want.dies, .int .i64 x.want.grace])) := HYe.out.setAll #[.string x.want.copy, .int .i64 x.want.version, .string x.want.hold, .int .i64 x.want.pull, .int .i64 x.want.start, .int .i64 x.want.dies, .int .i64 x.want.grace] rfl
    have HZf : Hid (Blk w.heap.size #[.string r.want.copy, .int .i64 r.want.version, .string r.want.hold, .int .i64 r.want.pull, .int .i64 r.want.start, .int .i64 r.want.dies, .int .i64 r.want.grace, .int .i64 r.state, .int .i64 r.left, .int .i64 r.falls, .int .i64 r.until_] 26 (we.setCells (w.heap.size + 1) 0 [.string x.want.copy, .int .i64 x.want.version, .string x.want.hold, .int .i64 x.want.pull, .int .i64 x.want.start, .int .i64 x.want.dies, .int .i64 x.want.grace])) := blk_setCells_other (by omega) _ _ _ HZe.out
    have hbs : Below w.heap.size we (we.setCells (w.heap.size + 1) 0 [.string x.want.copy, .int .i64 x.want.version, .string x.want.hold, .int .i64 x.want.pull, .int .i64 x.want.start, .int .i64 x.want.dies, .int .i64 x.want.grace]) := below_setCells (by omega) _ _ _ (Below.refl _ _)
    have hBf := hBe.trans hbs
    refine hK.out _ _ ⟨blk_setCells_other (by omega) _ _ _ hS.1, blk_setCells_other (by omega) _ _ _ hS.2⟩ (fun hS => ?_)
    clear hK K hbs
    generalize (we.setCells (w.heap.size + 1) 0 [.string x.want.copy, .int .i64 x.want.version, .string x.want.hold, .int .i64 x.want.pull, .int .i64 x.want.start, .int .i64 x.want.dies, .int .i64 x.want.grace]) = wf at *
    refine wpAnyH_take (i := 5) (oi := { dst := some 4, op := _, type := _, pos := _, after := _, guard := none }) (v := .bool true) rfl (by kernel_rfl) (by kernel_rfl) (by kernel_rfl) (fun _ _ _ h => h) (Or.inl ⟨by rfl, ?_⟩) hS ?_
    · intro wy hy
      clear hy
      go_simp
    simp only [Act.put, List.setIfInBounds_toArray, List.set_cons_zero, List.set_cons_succ]
    refine wpAnyH_take (i := 6) (oi := { dst := some 5, op := _, type := _, pos := _, after := _, guard := none }) (v := .int .i64 (c : Int)) rfl (by kernel_rfl) (by kernel_rfl) (by kernel_rfl) (fun _ _ _ h => h) (Or.inl ⟨by rfl, ?_⟩) hS ?_
    · intro wy hy
      clear hy
      go_simp
    simp only [Act.put, List.setIfInBounds_toArray, List.set_cons_zero, List.set_cons_succ]
    refine wpAnyH_done (by kernel_rfl) ?_ _
    clear hS
    go_wp2_with fail
    exact bodyPost_ret (results_cells4 rfl _ _ w.heap.size [.string r.want.copy, .int .i64 r.want.version, .string r.want.hold, .int .i64 r.want.pull, .int .i64 r.want.start, .int .i64 r.want.dies, .int .i64 r.want.grace, .int .i64 r.state, .int .i64 r.left, .int .i64 r.falls, .int .i64 r.until_] _ (w.heap.size + 1) [.string x.want.copy, .int .i64 x.want.version, .string x.want.hold, .int .i64 x.want.pull, .int .i64 x.want.start, .int .i64 x.want.dies, .int .i64 x.want.grace] _ rfl HZf.out.rangeA Try.underlying26 rfl isz_Rn rfl HYf.out.rangeA Try.underlying24 rfl isz_Wnt) rfl ⟨r, x.want, true, (c : Int), rfl, r0, r2, by omega, by omega, hBf⟩
  · go_wp2_with fail
    refine (pick_rd p (k + 1) 2 _ HR8.out (by omega) (by omega) (by omega)).mono ?_
    rintro e w9 ⟨u, rfl, hu, hr, hb, -⟩
    have HZ9 : Hid (Blk w.heap.size #[.string ⟨#[]⟩, .int .i64 0, .string ⟨#[]⟩, .int .i64 0, .int .i64 0, .int .i64 0, .int .i64 0, .int .i64 0, .int .i64 0, .int .i64 0, .int .i64 0] 26 w9) := HZ8.out.bt hb HZ8.out.lt (by omega)
    have HY9 : Hid (Blk (w.heap.size + 1) #[.string ⟨#[]⟩, .int .i64 0, .string ⟨#[]⟩, .int .i64 0, .int .i64 0, .int .i64 0, .int .i64 0] 24 w9) := HY8.out.bt hb HY8.out.lt (by omega)
    have hB9 : Below w.heap.size w w9 := hB8.trans (hb.below hB8.size (by omega))
    have HR9 := Hid.intro hr
    have HX9 : Hid (Blk q #[.string x.want.copy, .int .i64 x.want.version, .string x.want.hold, .int .i64 x.want.pull, .int .i64 x.want.start, .int .i64 x.want.dies, .int .i64 x.want.grace, .int .i64 x.state, .int .i64 x.left, .int .i64 x.falls, .int .i64 x.until_] 26 w9) := HX8.out.bt hb HX8.out.lt (by omega)
    have HW9 : Hid (Blk (q + 1) #[.string x.want.copy, .int .i64 x.want.version, .string x.want.hold, .int .i64 x.want.pull, .int .i64 x.want.start, .int .i64 x.want.dies, .int .i64 x.want.grace] 24 w9) := HW8.out.bt hb HW8.out.lt (by omega)
    clear hr hb HZ8 HY8 hB8 HR8 HX8 HW8
    have kx : w9.cell? ⟨q, 9, none⟩ = some (.int .i64 x.falls) := HX9.out.cell rfl
    have fx : w9.frozen? ⟨q, 9, none⟩ = false := HX9.out.frozen _
    have HX10 : Hid (Blk q #[.string x.want.copy, .int .i64 x.want.version, .string x.want.hold, .int .i64 x.want.pull, .int .i64 x.want.start, .int .i64 x.want.dies, .int .i64 x.want.grace, .int .i64 x.state, .int .i64 x.left, .int .i64 (1000 - (u : Int)), .int .i64 x.until_] 26 (w9.setCell ⟨q, 9, none⟩ (.int .i64 (1000 - (u : Int))))) := HX9.out.set 9 _
    have HW10 : Hid (Blk (q + 1) #[.string x.want.copy, .int .i64 x.want.version, .string x.want.hold, .int .i64 x.want.pull, .int .i64 x.want.start, .int .i64 x.want.dies, .int .i64 x.want.grace] 24 (w9.setCell ⟨q, 9, none⟩ (.int .i64 (1000 - (u : Int))))) := HW9.out.other (a := ⟨q, 9, none⟩) (show _ ≠ q by omega) _
    have HZ10 : Hid (Blk w.heap.size #[.string ⟨#[]⟩, .int .i64 0, .string ⟨#[]⟩, .int .i64 0, .int .i64 0, .int .i64 0, .int .i64 0, .int .i64 0, .int .i64 0, .int .i64 0, .int .i64 0] 26 (w9.setCell ⟨q, 9, none⟩ (.int .i64 (1000 - (u : Int))))) := HZ9.out.other (a := ⟨q, 9, none⟩) (show _ ≠ q by omega) _
    have HY10 : Hid (Blk (w.heap.size + 1) #[.string ⟨#[]⟩, .int .i64 0, .string ⟨#[]⟩, .int .i64 0, .int .i64 0, .int .i64 0, .int .i64 0] 24 (w9.setCell ⟨q, 9, none⟩ (.int .i64 (1000 - (u : Int))))) := HY9.out.other (a := ⟨q, 9, none⟩) (show _ ≠ q by omega) _
    have hB10 : Below w.heap.size w (w9.setCell ⟨q, 9, none⟩ (.int .i64 (1000 - (u : Int)))) := hB9.trans ((Below.refl _ _).setCell (p := ⟨q, 9, none⟩) (show w.heap.size ≤ q by omega) _)
    skip
    clear HX9 HW9 HZ9 HY9 hB9
    go_upto_region 14 with fail
    clear kx fx
    generalize (w9.setCell ⟨q, 9, none⟩ (.int .i64 (1000 - (u : Int)))) = w10 at *
    have kx : w10.cell? ⟨q, 7, none⟩ = some (.int .i64 x.state) := HX10.out.cell rfl
    have fx : w10.frozen? ⟨q, 7, none⟩ = false := HX10.out.frozen _
    have HX11 : Hid (Blk q #[.string x.want.copy, .int .i64 x.want.version, .string x.want.hold, .int .i64 x.want.pull, .int .i64 x.want.start, .int .i64 x.want.dies, .int .i64 x.want.grace, .int .i64 4, .int .i64 x.left, .int .i64 (1000 - (u : Int)), .int .i64 x.until_] 26 (w10.setCell ⟨q, 7, none⟩ (.int .i64 4))) := HX10.out.set 7 _
    have HW11 : Hid (Blk (q + 1) #[.string x.want.copy, .int .i64 x.want.version, .string x.want.hold, .int .i64 x.want.pull, .int .i64 x.want.start, .int .i64 x.want.dies, .int .i64 x.want.grace] 24 (w10.setCell ⟨q, 7, none⟩ (.int .i64 4))) := HW10.out.other (a := ⟨q, 7, none⟩) (show _ ≠ q by omega) _
    have HZ11 : Hid (Blk w.heap.size #[.string ⟨#[]⟩, .int .i64 0, .string ⟨#[]⟩, .int .i64 0, .int .i64 0, .int .i64 0, .int .i64 0, .int .i64 0, .int .i64 0, .int .i64 0, .int .i64 0] 26 (w10.setCell ⟨q, 7, none⟩ (.int .i64 4))) := HZ10.out.other (a := ⟨q, 7, none⟩) (show _ ≠ q by omega) _
    have HY11 : Hid (Blk (w.heap.size + 1) #[.string ⟨#[]⟩, .int .i64 0, .string ⟨#[]⟩, .int .i64 0, .int .i64 0, .int .i64 0, .int .i64 0] 24 (w10.setCell ⟨q, 7, none⟩ (.int .i64 4))) := HY10.out.other (a := ⟨q, 7, none⟩) (show _ ≠ q by omega) _
    have hB11 : Below w.heap.size w (w10.setCell ⟨q, 7, none⟩ (.int .i64 4)) := hB10.trans ((Below.refl _ _).setCell (p := ⟨q, 7, none⟩) (show w.heap.size ≤ q by omega) _)
    skip
    clear HX10 HW10 HZ10 HY10 hB10
    go_upto_region 15 with fail
    clear kx fx
    generalize (w10.setCell ⟨q, 7, none⟩ (.int .i64 4)) = w11 at *
    have kx : w11.cell? ⟨q, 8, none⟩ = some (.int .i64 x.left) := HX11.out.cell rfl
    have fx : w11.frozen? ⟨q, 8, none⟩ = false := HX11.out.frozen _
    have HX12 : Hid (Blk q #[.string x.want.copy, .int .i64 x.want.version, .string x.want.hold, .int .i64 x.want.pull, .int .i64 x.want.start, .int .i64 x.want.dies, .int .i64 x.want.grace, .int .i64 4, .int .i64 1, .int .i64 (1000 - (u : Int)), .int .i64 x.until_] 26 (w11.setCell ⟨q, 8, none⟩ (.int .i64 1))) := HX11.out.set 8 _
    have HW12 : Hid (Blk (q + 1) #[.string x.want.copy, .int .i64 x.want.version, .string x.want.hold, .int .i64 x.want.pull, .int .i64 x.want.start, .int .i64 x.want.dies, .int .i64 x.want.grace] 24 (w11.setCell ⟨q, 8, none⟩ (.int .i64 1))) := HW11.out.other (a := ⟨q, 8, none⟩) (show _ ≠ q by omega) _
    have HZ12 : Hid (Blk w.heap.size #[.string ⟨#[]⟩, .int .i64 0, .string ⟨#[]⟩, .int .i64 0, .int .i64 0, .int .i64 0, .int .i64 0, .int .i64 0, .int .i64 0, .int .i64 0, .int .i64 0] 26 (w11.setCell ⟨q, 8, none⟩ (.int .i64 1))) := HZ11.out.other (a := ⟨q, 8, none⟩) (show _ ≠ q by omega) _
    have HY12 : Hid (Blk (w.heap.size + 1) #[.string ⟨#[]⟩, .int .i64 0, .string ⟨#[]⟩, .int .i64 0, .int .i64 0, .int .i64 0, .int .i64 0] 24 (w11.setCell ⟨q, 8, none⟩ (.int .i64 1))) := HY11.out.other (a := ⟨q, 8, none⟩) (show _ ≠ q by omega) _
    have hB12 : Below w.heap.size w (w11.setCell ⟨q, 8, none⟩ (.int .i64 1)) := hB11.trans ((Below.refl _ _).setCell (p := ⟨q, 8, none⟩) (show w.heap.size ≤ q by omega) _)
    skip
    clear HX11 HW11 HZ11 HY11 hB11
    go_upto_region 16 with fail
    clear kx fx
    generalize (w11.setCell ⟨q, 8, none⟩ (.int .i64 1)) = w12 at *
    have HR12 := HR9
    clear HR9
    clear HR12
    go_upto_region 16 with fail
    refine wp_region_held_drew (S := fun wy => Blk q #[.string x.want.copy, .int .i64 x.want.version, .string x.want.hold, .int .i64 x.want.pull, .int .i64 x.want.start, .int .i64 x.want.dies, .int .i64 x.want.grace, .int .i64 4, .int .i64 1, .int .i64 (1000 - (u : Int)), .int .i64 x.until_] 26 wy ∧ Blk (q + 1) #[.string x.want.copy, .int .i64 x.want.version, .string x.want.hold, .int .i64 x.want.pull, .int .i64 x.want.start, .int .i64 x.want.dies, .int .i64 x.want.grace] 24 wy) (by kernel_rfl) ⟨HX12.out.drew, HW12.out.drew⟩ (fun hS => ?_)
    have hBd : Below w.heap.size w w12.drew := hB12.trans ((Below.refl w.heap.size w12).drew)
    have HZd : Hid (Blk w.heap.size #[.string ⟨#[]⟩, .int .i64 0, .string ⟨#[]⟩, .int .i64 0, .int .i64 0, .int .i64 0, .int .i64 0, .int .i64 0, .int .i64 0, .int .i64 0, .int .i64 0] 26 w12.drew) := HZ12.out.drew
    have HYd : Hid (Blk (w.heap.size + 1) #[.string ⟨#[]⟩, .int .i64 0, .string ⟨#[]⟩, .int .i64 0, .int .i64 0, .int .i64 0, .int .i64 0] 24 w12.drew) := HY12.out.drew
    generalize w12.drew = wd at *
    refine wpAnyH_take (i := 0) (oi := { dst := some 43, op := _, type := _, pos := _, after := _, guard := none }) (v := .agg #[.string x.want.copy, .int .i64 x.want.version, .string x.want.hold, .int .i64 x.want.pull, .int .i64 x.want.start, .int .i64 x.want.dies, .int .i64 x.want.grace, .int .i64 4, .int .i64 1, .int .i64 (1000 - (u : Int)), .int .i64 x.until_]) rfl (by kernel_rfl) (by kernel_rfl) (by kernel_rfl) (fun _ _ _ h => h) (yieldsIf_load_mid (by rfl) _ _ rfl q (0) rfl [.string x.want.copy, .int .i64 x.want.version, .string x.want.hold, .int .i64 x.want.pull, .int .i64 x.want.start, .int .i64 x.want.dies, .int .i64 x.want.grace, .int .i64 4, .int .i64 1, .int .i64 (1000 - (u : Int)), .int .i64 x.until_] _ (fun _ h => h.1.rangeA) Try.underlying26 rfl isz_Rn) hS ?_
    simp only [Act.put, List.setIfInBounds_toArray, List.set_cons_zero, List.set_cons_succ]
    refine wpAnyH_take (i := 1) (oi := { dst := some 44, op := _, type := _, pos := _, after := _, guard := none }) (v := .agg #[.string x.want.copy, .int .i64 x.want.version, .string x.want.hold, .int .i64 x.want.pull, .int .i64 x.want.start, .int .i64 x.want.dies, .int .i64 x.want.grace]) rfl (by kernel_rfl) (by kernel_rfl) (by kernel_rfl) (fun _ _ _ h => h) (yieldsIf_load_mid (by rfl) _ _ rfl (q + 1) (0) rfl [.string x.want.copy, .int .i64 x.want.version, .string x.want.hold, .int .i64 x.want.pull, .int .i64 x.want.start, .int .i64 x.want.dies, .int .i64 x.want.grace] _ (fun _ h => h.2.rangeA) Try.underlying24 rfl isz_Wnt) hS ?_
    simp only [Act.put, List.setIfInBounds_toArray, List.set_cons_zero, List.set_cons_succ]
    refine wpAnyH_take (i := 2) (oi := { dst := some 45, op := _, type := _, pos := _, after := _, guard := none }) (v := .int .i64 (c : Int)) rfl (by kernel_rfl) (by kernel_rfl) (by kernel_rfl) (fun _ _ _ h => h) (Or.inl ⟨by rfl, ?_⟩) hS ?_
    · intro wy hy
      clear hy
      go_simp
    simp only [Act.put, List.setIfInBounds_toArray, List.set_cons_zero, List.set_cons_succ]
    refine wpAnyH_ready (rs := [3]) (by kernel_rfl) (by simp) (AllReadyH.cons (o := { dst := none, op := _, type := _, pos := _, after := _, guard := none }) rfl (fun K hK => ?_) AllReadyH.nil)
    rw [if_pos (by rfl)]
    refine wp_store_mid 26 (.tmp 2) (.tmp 43) (by rfl) w.heap.size 0 #[.string x.want.copy, .int .i64 x.want.version, .string x.want.hold, .int .i64 x.want.pull, .int .i64 x.want.start, .int .i64 x.want.dies, .int .i64 x.want.grace, .int .i64 4, .int .i64 1, .int .i64 (1000 - (u : Int)), .int .i64 x.until_] (by rfl) (by rfl) HZd.out.there isz_Rn (by simp [Value.oneCell']) ?_
    have HZe : Hid (Blk w.heap.size #[.string x.want.copy, .int .i64 x.want.version, .string x.want.hold, .int .i64 x.want.pull, .int .i64 x.want.start, .int .i64 x.want.dies, .int .i64 x.want.grace, .int .i64 4, .int .i64 1, .int .i64 (1000 - (u : Int)), .int .i64 x.until_] 26 (wd.setCells w.heap.size 0 [.string x.want.copy, .int .i64 x.want.version, .string x.want.hold, .int .i64 x.want.pull, .int .i64 x.want.start, .int .i64 x.want.dies, .int .i64 x.want.grace, .int .i64 4, .int .i64 1, .int .i64 (1000 - (u : Int)), .int .i64 x.until_])) := HZd.out.setAll #[.string x.want.copy, .int .i64 x.want.version, .string x.want.hold, .int .i64 x.want.pull, .int .i64 x.want.start, .int .i64 x.want.dies, .int .i64 x.want.grace, .int .i64 4, .int .i64 1, .int .i64 (1000 - (u : Int)), .int .i64 x.until_] rfl
    have HYe : Hid (Blk (w.heap.size + 1) #[.string ⟨#[]⟩, .int .i64 0, .string ⟨#[]⟩, .int .i64 0, .int .i64 0, .int .i64 0, .int .i64 0] 24 (wd.setCells w.heap.size 0 [.string x.want.copy, .int .i64 x.want.version, .string x.want.hold, .int .i64 x.want.pull, .int .i64 x.want.start, .int .i64 x.want.dies, .int .i64 x.want.grace, .int .i64 4, .int .i64 1, .int .i64 (1000 - (u : Int)), .int .i64 x.until_])) := blk_setCells_other (by omega) _ _ _ HYd.out
    have hbs : Below w.heap.size wd (wd.setCells w.heap.size 0 [.string x.want.copy, .int .i64 x.want.version, .string x.want.hold, .int .i64 x.want.pull, .int .i64 x.want.start, .int .i64 x.want.dies, .int .i64 x.want.grace, .int .i64 4, .int .i64 1, .int .i64 (1000 - (u : Int)), .int .i64 x.until_]) := below_setCells (by omega) _ _ _ (Below.refl _ _)
    have hBe := hBd.trans hbs
    refine hK.out _ _ ⟨blk_setCells_other (by omega) _ _ _ hS.1, blk_setCells_other (by omega) _ _ _ hS.2⟩ (fun hS => ?_)
    clear hK K hbs
    generalize (wd.setCells w.heap.size 0 [.string x.want.copy, .int .i64 x.want.version, .string x.want.hold, .int .i64 x.want.pull, .int .i64 x.want.start, .int .i64 x.want.dies, .int .i64 x.want.grace, .int .i64 4, .int .i64 1, .int .i64 (1000 - (u : Int)), .int .i64 x.until_]) = we at *
    refine wpAnyH_ready (rs := [4]) (by kernel_rfl) (by simp) (AllReadyH.cons (o := { dst := none, op := _, type := _, pos := _, after := _, guard := none }) rfl (fun K hK => ?_) AllReadyH.nil)
    rw [if_pos (by rfl)]
    refine wp_store_mid 24 (.tmp 3) (.tmp 44) (by rfl) (w.heap.size + 1) 0 #[.string x.want.copy, .int .i64 x.want.version, .string x.want.hold, .int .i64 x.want.pull, .int .i64 x.want.start, .int .i64 x.want.dies, .int .i64 x.want.grace] (by rfl) (by rfl) HYe.out.there isz_Wnt (by simp [Value.oneCell']) ?_
    have HYf : Hid (Blk (w.heap.size + 1) #[.string x.want.copy, .int .i64 x.want.version, .string x.want.hold, .int .i64 x.want.pull, .int .i64 x.want.start, .int .i64 x.want.dies, .int .i64 x.want.grace] 24 (we.setCells (w.heap.size + 1) 0 [.string x.want.copy, .int .i64 x.want.version, .string x.want.hold, .int .i64 x.want.pull, .int .i64 x.want.start, .int .i64 x.want.dies, .int .i64 x.want.grace])) := HYe.out.setAll #[.string x.want.copy, .int .i64 x.want.version, .string x.want.hold, .int .i64 x.want.pull, .int .i64 x.want.start, .int .i64 x.want.dies, .int .i64 x.want.grace] rfl
    have HZf : Hid (Blk w.heap.size #[.string x.want.copy, .int .i64 x.want.version, .string x.want.hold, .int .i64 x.want.pull, .int .i64 x.want.start, .int .i64 x.want.dies, .int .i64 x.want.grace, .int .i64 4, .int .i64 1, .int .i64 (1000 - (u : Int)), .int .i64 x.until_] 26 (we.setCells (w.heap.size + 1) 0 [.string x.want.copy, .int .i64 x.want.version, .string x.want.hold, .int .i64 x.want.pull, .int .i64 x.want.start, .int .i64 x.want.dies, .int .i64 x.want.grace])) := blk_setCells_other (by omega) _ _ _ HZe.out
    have hbs : Below w.heap.size we (we.setCells (w.heap.size + 1) 0 [.string x.want.copy, .int .i64 x.want.version, .string x.want.hold, .int .i64 x.want.pull, .int .i64 x.want.start, .int .i64 x.want.dies, .int .i64 x.want.grace]) := below_setCells (by omega) _ _ _ (Below.refl _ _)
    have hBf := hBe.trans hbs
    refine hK.out _ _ ⟨blk_setCells_other (by omega) _ _ _ hS.1, blk_setCells_other (by omega) _ _ _ hS.2⟩ (fun hS => ?_)
    clear hK K hbs
    generalize (we.setCells (w.heap.size + 1) 0 [.string x.want.copy, .int .i64 x.want.version, .string x.want.hold, .int .i64 x.want.pull, .int .i64 x.want.start, .int .i64 x.want.dies, .int .i64 x.want.grace]) = wf at *
    refine wpAnyH_take (i := 5) (oi := { dst := some 4, op := _, type := _, pos := _, after := _, guard := none }) (v := .bool true) rfl (by kernel_rfl) (by kernel_rfl) (by kernel_rfl) (fun _ _ _ h => h) (Or.inl ⟨by rfl, ?_⟩) hS ?_
    · intro wy hy
      clear hy
      go_simp
    simp only [Act.put, List.setIfInBounds_toArray, List.set_cons_zero, List.set_cons_succ]
    refine wpAnyH_take (i := 6) (oi := { dst := some 5, op := _, type := _, pos := _, after := _, guard := none }) (v := .int .i64 (c : Int)) rfl (by kernel_rfl) (by kernel_rfl) (by kernel_rfl) (fun _ _ _ h => h) (Or.inl ⟨by rfl, ?_⟩) hS ?_
    · intro wy hy
      clear hy
      go_simp
    simp only [Act.put, List.setIfInBounds_toArray, List.set_cons_zero, List.set_cons_succ]
    refine wpAnyH_done (by kernel_rfl) ?_ _
    clear hS
    go_wp2_with fail
    exact bodyPost_ret (results_cells4 rfl _ _ w.heap.size [.string x.want.copy, .int .i64 x.want.version, .string x.want.hold, .int .i64 x.want.pull, .int .i64 x.want.start, .int .i64 x.want.dies, .int .i64 x.want.grace, .int .i64 4, .int .i64 1, .int .i64 (1000 - (u : Int)), .int .i64 x.until_] _ (w.heap.size + 1) [.string x.want.copy, .int .i64 x.want.version, .string x.want.hold, .int .i64 x.want.pull, .int .i64 x.want.start, .int .i64 x.want.dies, .int .i64 x.want.grace] _ rfl HZf.out.rangeA Try.underlying26 rfl isz_Rn rfl HYf.out.rangeA Try.underlying24 rfl isz_Wnt) rfl ⟨⟨x.want, 4, 1, 1000 - (u : Int), x.until_⟩, x.want, true, (c : Int), rfl, x0, x2, by omega, by omega, hBf⟩
  · clear HR8
    go_upto_region 16 with fail
    refine wp_region_held_drew (S := fun wy => Blk q #[.string x.want.copy, .int .i64 x.want.version, .string x.want.hold, .int .i64 x.want.pull, .int .i64 x.want.start, .int .i64 x.want.dies, .int .i64 x.want.grace, .int .i64 x.state, .int .i64 x.left, .int .i64 x.falls, .int .i64 x.until_] 26 wy ∧ Blk (q + 1) #[.string x.want.copy, .int .i64 x.want.version, .string x.want.hold, .int .i64 x.want.pull, .int .i64 x.want.start, .int .i64 x.want.dies, .int .i64 x.want.grace] 24 wy) (by kernel_rfl) ⟨HX8.out.drew, HW8.out.drew⟩ (fun hS => ?_)
    have hBd : Below w.heap.size w w8.drew := hB8.trans ((Below.refl w.heap.size w8).drew)
    have HZd : Hid (Blk w.heap.size #[.string ⟨#[]⟩, .int .i64 0, .string ⟨#[]⟩, .int .i64 0, .int .i64 0, .int .i64 0, .int .i64 0, .int .i64 0, .int .i64 0, .int .i64 0, .int .i64 0] 26 w8.drew) := HZ8.out.drew
    have HYd : Hid (Blk (w.heap.size + 1) #[.string ⟨#[]⟩, .int .i64 0, .string ⟨#[]⟩, .int .i64 0, .int .i64 0, .int .i64 0, .int .i64 0] 24 w8.drew) := HY8.out.drew
    generalize w8.drew = wd at *
    refine wpAnyH_take (i := 0) (oi := { dst := some 43, op := _, type := _, pos := _, after := _, guard := none }) (v := .agg #[.string x.want.copy, .int .i64 x.want.version, .string x.want.hold, .int .i64 x.want.pull, .int .i64 x.want.start, .int .i64 x.want.dies, .int .i64 x.want.grace, .int .i64 x.state, .int .i64 x.left, .int .i64 x.falls, .int .i64 x.until_]) rfl (by kernel_rfl) (by kernel_rfl) (by kernel_rfl) (fun _ _ _ h => h) (yieldsIf_load_mid (by rfl) _ _ rfl q (0) rfl [.string x.want.copy, .int .i64 x.want.version, .string x.want.hold, .int .i64 x.want.pull, .int .i64 x.want.start, .int .i64 x.want.dies, .int .i64 x.want.grace, .int .i64 x.state, .int .i64 x.left, .int .i64 x.falls, .int .i64 x.until_] _ (fun _ h => h.1.rangeA) Try.underlying26 rfl isz_Rn) hS ?_
    simp only [Act.put, List.setIfInBounds_toArray, List.set_cons_zero, List.set_cons_succ]
    refine wpAnyH_take (i := 1) (oi := { dst := some 44, op := _, type := _, pos := _, after := _, guard := none }) (v := .agg #[.string x.want.copy, .int .i64 x.want.version, .string x.want.hold, .int .i64 x.want.pull, .int .i64 x.want.start, .int .i64 x.want.dies, .int .i64 x.want.grace]) rfl (by kernel_rfl) (by kernel_rfl) (by kernel_rfl) (fun _ _ _ h => h) (yieldsIf_load_mid (by rfl) _ _ rfl (q + 1) (0) rfl [.string x.want.copy, .int .i64 x.want.version, .string x.want.hold, .int .i64 x.want.pull, .int .i64 x.want.start, .int .i64 x.want.dies, .int .i64 x.want.grace] _ (fun _ h => h.2.rangeA) Try.underlying24 rfl isz_Wnt) hS ?_
    simp only [Act.put, List.setIfInBounds_toArray, List.set_cons_zero, List.set_cons_succ]
    refine wpAnyH_take (i := 2) (oi := { dst := some 45, op := _, type := _, pos := _, after := _, guard := none }) (v := .int .i64 (c : Int)) rfl (by kernel_rfl) (by kernel_rfl) (by kernel_rfl) (fun _ _ _ h => h) (Or.inl ⟨by rfl, ?_⟩) hS ?_
    · intro wy hy
      clear hy
      go_simp
    simp only [Act.put, List.setIfInBounds_toArray, List.set_cons_zero, List.set_cons_succ]
    refine wpAnyH_ready (rs := [3]) (by kernel_rfl) (by simp) (AllReadyH.cons (o := { dst := none, op := _, type := _, pos := _, after := _, guard := none }) rfl (fun K hK => ?_) AllReadyH.nil)
    rw [if_pos (by rfl)]
    refine wp_store_mid 26 (.tmp 2) (.tmp 43) (by rfl) w.heap.size 0 #[.string x.want.copy, .int .i64 x.want.version, .string x.want.hold, .int .i64 x.want.pull, .int .i64 x.want.start, .int .i64 x.want.dies, .int .i64 x.want.grace, .int .i64 x.state, .int .i64 x.left, .int .i64 x.falls, .int .i64 x.until_] (by rfl) (by rfl) HZd.out.there isz_Rn (by simp [Value.oneCell']) ?_
    have HZe : Hid (Blk w.heap.size #[.string x.want.copy, .int .i64 x.want.version, .string x.want.hold, .int .i64 x.want.pull, .int .i64 x.want.start, .int .i64 x.want.dies, .int .i64 x.want.grace, .int .i64 x.state, .int .i64 x.left, .int .i64 x.falls, .int .i64 x.until_] 26 (wd.setCells w.heap.size 0 [.string x.want.copy, .int .i64 x.want.version, .string x.want.hold, .int .i64 x.want.pull, .int .i64 x.want.start, .int .i64 x.want.dies, .int .i64 x.want.grace, .int .i64 x.state, .int .i64 x.left, .int .i64 x.falls, .int .i64 x.until_])) := HZd.out.setAll #[.string x.want.copy, .int .i64 x.want.version, .string x.want.hold, .int .i64 x.want.pull, .int .i64 x.want.start, .int .i64 x.want.dies, .int .i64 x.want.grace, .int .i64 x.state, .int .i64 x.left, .int .i64 x.falls, .int .i64 x.until_] rfl
    have HYe : Hid (Blk (w.heap.size + 1) #[.string ⟨#[]⟩, .int .i64 0, .string ⟨#[]⟩, .int .i64 0, .int .i64 0, .int .i64 0, .int .i64 0] 24 (wd.setCells w.heap.size 0 [.string x.want.copy, .int .i64 x.want.version, .string x.want.hold, .int .i64 x.want.pull, .int .i64 x.want.start, .int .i64 x.want.dies, .int .i64 x.want.grace, .int .i64 x.state, .int .i64 x.left, .int .i64 x.falls, .int .i64 x.until_])) := blk_setCells_other (by omega) _ _ _ HYd.out
    have hbs : Below w.heap.size wd (wd.setCells w.heap.size 0 [.string x.want.copy, .int .i64 x.want.version, .string x.want.hold, .int .i64 x.want.pull, .int .i64 x.want.start, .int .i64 x.want.dies, .int .i64 x.want.grace, .int .i64 x.state, .int .i64 x.left, .int .i64 x.falls, .int .i64 x.until_]) := below_setCells (by omega) _ _ _ (Below.refl _ _)
    have hBe := hBd.trans hbs
    refine hK.out _ _ ⟨blk_setCells_other (by omega) _ _ _ hS.1, blk_setCells_other (by omega) _ _ _ hS.2⟩ (fun hS => ?_)
    clear hK K hbs
    generalize (wd.setCells w.heap.size 0 [.string x.want.copy, .int .i64 x.want.version, .string x.want.hold, .int .i64 x.want.pull, .int .i64 x.want.start, .int .i64 x.want.dies, .int .i64 x.want.grace, .int .i64 x.state, .int .i64 x.left, .int .i64 x.falls, .int .i64 x.until_]) = we at *
    refine wpAnyH_ready (rs := [4]) (by kernel_rfl) (by simp) (AllReadyH.cons (o := { dst := none, op := _, type := _, pos := _, after := _, guard := none }) rfl (fun K hK => ?_) AllReadyH.nil)
    rw [if_pos (by rfl)]
    refine wp_store_mid 24 (.tmp 3) (.tmp 44) (by rfl) (w.heap.size + 1) 0 #[.string x.want.copy, .int .i64 x.want.version, .string x.want.hold, .int .i64 x.want.pull, .int .i64 x.want.start, .int .i64 x.want.dies, .int .i64 x.want.grace] (by rfl) (by rfl) HYe.out.there isz_Wnt (by simp [Value.oneCell']) ?_
    have HYf : Hid (Blk (w.heap.size + 1) #[.string x.want.copy, .int .i64 x.want.version, .string x.want.hold, .int .i64 x.want.pull, .int .i64 x.want.start, .int .i64 x.want.dies, .int .i64 x.want.grace] 24 (we.setCells (w.heap.size + 1) 0 [.string x.want.copy, .int .i64 x.want.version, .string x.want.hold, .int .i64 x.want.pull, .int .i64 x.want.start, .int .i64 x.want.dies, .int .i64 x.want.grace])) := HYe.out.setAll #[.string x.want.copy, .int .i64 x.want.version, .string x.want.hold, .int .i64 x.want.pull, .int .i64 x.want.start, .int .i64 x.want.dies, .int .i64 x.want.grace] rfl
    have HZf : Hid (Blk w.heap.size #[.string x.want.copy, .int .i64 x.want.version, .string x.want.hold, .int .i64 x.want.pull, .int .i64 x.want.start, .int .i64 x.want.dies, .int .i64 x.want.grace, .int .i64 x.state, .int .i64 x.left, .int .i64 x.falls, .int .i64 x.until_] 26 (we.setCells (w.heap.size + 1) 0 [.string x.want.copy, .int .i64 x.want.version, .string x.want.hold, .int .i64 x.want.pull, .int .i64 x.want.start, .int .i64 x.want.dies, .int .i64 x.want.grace])) := blk_setCells_other (by omega) _ _ _ HZe.out
    have hbs : Below w.heap.size we (we.setCells (w.heap.size + 1) 0 [.string x.want.copy, .int .i64 x.want.version, .string x.want.hold, .int .i64 x.want.pull, .int .i64 x.want.start, .int .i64 x.want.dies, .int .i64 x.want.grace]) := below_setCells (by omega) _ _ _ (Below.refl _ _)
    have hBf := hBe.trans hbs
    refine hK.out _ _ ⟨blk_setCells_other (by omega) _ _ _ hS.1, blk_setCells_other (by omega) _ _ _ hS.2⟩ (fun hS => ?_)
    clear hK K hbs
    generalize (we.setCells (w.heap.size + 1) 0 [.string x.want.copy, .int .i64 x.want.version, .string x.want.hold, .int .i64 x.want.pull, .int .i64 x.want.start, .int .i64 x.want.dies, .int .i64 x.want.grace]) = wf at *
    refine wpAnyH_take (i := 5) (oi := { dst := some 4, op := _, type := _, pos := _, after := _, guard := none }) (v := .bool true) rfl (by kernel_rfl) (by kernel_rfl) (by kernel_rfl) (fun _ _ _ h => h) (Or.inl ⟨by rfl, ?_⟩) hS ?_
    · intro wy hy
      clear hy
      go_simp
    simp only [Act.put, List.setIfInBounds_toArray, List.set_cons_zero, List.set_cons_succ]
    refine wpAnyH_take (i := 6) (oi := { dst := some 5, op := _, type := _, pos := _, after := _, guard := none }) (v := .int .i64 (c : Int)) rfl (by kernel_rfl) (by kernel_rfl) (by kernel_rfl) (fun _ _ _ h => h) (Or.inl ⟨by rfl, ?_⟩) hS ?_
    · intro wy hy
      clear hy
      go_simp
    simp only [Act.put, List.setIfInBounds_toArray, List.set_cons_zero, List.set_cons_succ]
    refine wpAnyH_done (by kernel_rfl) ?_ _
    clear hS
    go_wp2_with fail
    exact bodyPost_ret (results_cells4 rfl _ _ w.heap.size [.string x.want.copy, .int .i64 x.want.version, .string x.want.hold, .int .i64 x.want.pull, .int .i64 x.want.start, .int .i64 x.want.dies, .int .i64 x.want.grace, .int .i64 x.state, .int .i64 x.left, .int .i64 x.falls, .int .i64 x.until_] _ (w.heap.size + 1) [.string x.want.copy, .int .i64 x.want.version, .string x.want.hold, .int .i64 x.want.pull, .int .i64 x.want.start, .int .i64 x.want.dies, .int .i64 x.want.grace] _ rfl HZf.out.rangeA Try.underlying26 rfl isz_Rn rfl HYf.out.rangeA Try.underlying24 rfl isz_Wnt) rfl ⟨x, x.want, true, (c : Int), rfl, x0, x2, by omega, by omega, hBf⟩
  · clear HR8
    go_upto_region 16 with fail
    refine wp_region_held_drew (S := fun wy => Blk q #[.string x.want.copy, .int .i64 x.want.version, .string x.want.hold, .int .i64 x.want.pull, .int .i64 x.want.start, .int .i64 x.want.dies, .int .i64 x.want.grace, .int .i64 x.state, .int .i64 x.left, .int .i64 x.falls, .int .i64 x.until_] 26 wy ∧ Blk (q + 1) #[.string x.want.copy, .int .i64 x.want.version, .string x.want.hold, .int .i64 x.want.pull, .int .i64 x.want.start, .int .i64 x.want.dies, .int .i64 x.want.grace] 24 wy) (by kernel_rfl) ⟨HX8.out.drew, HW8.out.drew⟩ (fun hS => ?_)
    have hBd : Below w.heap.size w w8.drew := hB8.trans ((Below.refl w.heap.size w8).drew)
    have HZd : Hid (Blk w.heap.size #[.string ⟨#[]⟩, .int .i64 0, .string ⟨#[]⟩, .int .i64 0, .int .i64 0, .int .i64 0, .int .i64 0, .int .i64 0, .int .i64 0, .int .i64 0, .int .i64 0] 26 w8.drew) := HZ8.out.drew
    have HYd : Hid (Blk (w.heap.size + 1) #[.string ⟨#[]⟩, .int .i64 0, .string ⟨#[]⟩, .int .i64 0, .int .i64 0, .int .i64 0, .int .i64 0] 24 w8.drew) := HY8.out.drew
    generalize w8.drew = wd at *
    refine wpAnyH_take (i := 0) (oi := { dst := some 43, op := _, type := _, pos := _, after := _, guard := none }) (v := .agg #[.string x.want.copy, .int .i64 x.want.version, .string x.want.hold, .int .i64 x.want.pull, .int .i64 x.want.start, .int .i64 x.want.dies, .int .i64 x.want.grace, .int .i64 x.state, .int .i64 x.left, .int .i64 x.falls, .int .i64 x.until_]) rfl (by kernel_rfl) (by kernel_rfl) (by kernel_rfl) (fun _ _ _ h => h) (yieldsIf_load_mid (by rfl) _ _ rfl q (0) rfl [.string x.want.copy, .int .i64 x.want.version, .string x.want.hold, .int .i64 x.want.pull, .int .i64 x.want.start, .int .i64 x.want.dies, .int .i64 x.want.grace, .int .i64 x.state, .int .i64 x.left, .int .i64 x.falls, .int .i64 x.until_] _ (fun _ h => h.1.rangeA) Try.underlying26 rfl isz_Rn) hS ?_
    simp only [Act.put, List.setIfInBounds_toArray, List.set_cons_zero, List.set_cons_succ]
    refine wpAnyH_take (i := 1) (oi := { dst := some 44, op := _, type := _, pos := _, after := _, guard := none }) (v := .agg #[.string x.want.copy, .int .i64 x.want.version, .string x.want.hold, .int .i64 x.want.pull, .int .i64 x.want.start, .int .i64 x.want.dies, .int .i64 x.want.grace]) rfl (by kernel_rfl) (by kernel_rfl) (by kernel_rfl) (fun _ _ _ h => h) (yieldsIf_load_mid (by rfl) _ _ rfl (q + 1) (0) rfl [.string x.want.copy, .int .i64 x.want.version, .string x.want.hold, .int .i64 x.want.pull, .int .i64 x.want.start, .int .i64 x.want.dies, .int .i64 x.want.grace] _ (fun _ h => h.2.rangeA) Try.underlying24 rfl isz_Wnt) hS ?_
    simp only [Act.put, List.setIfInBounds_toArray, List.set_cons_zero, List.set_cons_succ]
    refine wpAnyH_take (i := 2) (oi := { dst := some 45, op := _, type := _, pos := _, after := _, guard := none }) (v := .int .i64 (c : Int)) rfl (by kernel_rfl) (by kernel_rfl) (by kernel_rfl) (fun _ _ _ h => h) (Or.inl ⟨by rfl, ?_⟩) hS ?_
    · intro wy hy
      clear hy
      go_simp
    simp only [Act.put, List.setIfInBounds_toArray, List.set_cons_zero, List.set_cons_succ]
    refine wpAnyH_ready (rs := [3]) (by kernel_rfl) (by simp) (AllReadyH.cons (o := { dst := none, op := _, type := _, pos := _, after := _, guard := none }) rfl (fun K hK => ?_) AllReadyH.nil)
    rw [if_pos (by rfl)]
    refine wp_store_mid 26 (.tmp 2) (.tmp 43) (by rfl) w.heap.size 0 #[.string x.want.copy, .int .i64 x.want.version, .string x.want.hold, .int .i64 x.want.pull, .int .i64 x.want.start, .int .i64 x.want.dies, .int .i64 x.want.grace, .int .i64 x.state, .int .i64 x.left, .int .i64 x.falls, .int .i64 x.until_] (by rfl) (by rfl) HZd.out.there isz_Rn (by simp [Value.oneCell']) ?_
    have HZe : Hid (Blk w.heap.size #[.string x.want.copy, .int .i64 x.want.version, .string x.want.hold, .int .i64 x.want.pull, .int .i64 x.want.start, .int .i64 x.want.dies, .int .i64 x.want.grace, .int .i64 x.state, .int .i64 x.left, .int .i64 x.falls, .int .i64 x.until_] 26 (wd.setCells w.heap.size 0 [.string x.want.copy, .int .i64 x.want.version, .string x.want.hold, .int .i64 x.want.pull, .int .i64 x.want.start, .int .i64 x.want.dies, .int .i64 x.want.grace, .int .i64 x.state, .int .i64 x.left, .int .i64 x.falls, .int .i64 x.until_])) := HZd.out.setAll #[.string x.want.copy, .int .i64 x.want.version, .string x.want.hold, .int .i64 x.want.pull, .int .i64 x.want.start, .int .i64 x.want.dies, .int .i64 x.want.grace, .int .i64 x.state, .int .i64 x.left, .int .i64 x.falls, .int .i64 x.until_] rfl
    have HYe : Hid (Blk (w.heap.size + 1) #[.string ⟨#[]⟩, .int .i64 0, .string ⟨#[]⟩, .int .i64 0, .int .i64 0, .int .i64 0, .int .i64 0] 24 (wd.setCells w.heap.size 0 [.string x.want.copy, .int .i64 x.want.version, .string x.want.hold, .int .i64 x.want.pull, .int .i64 x.want.start, .int .i64 x.want.dies, .int .i64 x.want.grace, .int .i64 x.state, .int .i64 x.left, .int .i64 x.falls, .int .i64 x.until_])) := blk_setCells_other (by omega) _ _ _ HYd.out
    have hbs : Below w.heap.size wd (wd.setCells w.heap.size 0 [.string x.want.copy, .int .i64 x.want.version, .string x.want.hold, .int .i64 x.want.pull, .int .i64 x.want.start, .int .i64 x.want.dies, .int .i64 x.want.grace, .int .i64 x.state, .int .i64 x.left, .int .i64 x.falls, .int .i64 x.until_]) := below_setCells (by omega) _ _ _ (Below.refl _ _)
    have hBe := hBd.trans hbs
    refine hK.out _ _ ⟨blk_setCells_other (by omega) _ _ _ hS.1, blk_setCells_other (by omega) _ _ _ hS.2⟩ (fun hS => ?_)
    clear hK K hbs
    generalize (wd.setCells w.heap.size 0 [.string x.want.copy, .int .i64 x.want.version, .string x.want.hold, .int .i64 x.want.pull, .int .i64 x.want.start, .int .i64 x.want.dies, .int .i64 x.want.grace, .int .i64 x.state, .int .i64 x.left, .int .i64 x.falls, .int .i64 x.until_]) = we at *
    refine wpAnyH_ready (rs := [4]) (by kernel_rfl) (by simp) (AllReadyH.cons (o := { dst := none, op := _, type := _, pos := _, after := _, guard := none }) rfl (fun K hK => ?_) AllReadyH.nil)
    rw [if_pos (by rfl)]
    refine wp_store_mid 24 (.tmp 3) (.tmp 44) (by rfl) (w.heap.size + 1) 0 #[.string x.want.copy, .int .i64 x.want.version, .string x.want.hold, .int .i64 x.want.pull, .int .i64 x.want.start, .int .i64 x.want.dies, .int .i64 x.want.grace] (by rfl) (by rfl) HYe.out.there isz_Wnt (by simp [Value.oneCell']) ?_
    have HYf : Hid (Blk (w.heap.size + 1) #[.string x.want.copy, .int .i64 x.want.version, .string x.want.hold, .int .i64 x.want.pull, .int .i64 x.want.start, .int .i64 x.want.dies, .int .i64 x.want.grace] 24 (we.setCells (w.heap.size + 1) 0 [.string x.want.copy, .int .i64 x.want.version, .string x.want.hold, .int .i64 x.want.pull, .int .i64 x.want.start, .int .i64 x.want.dies, .int .i64 x.want.grace])) := HYe.out.setAll #[.string x.want.copy, .int .i64 x.want.version, .string x.want.hold, .int .i64 x.want.pull, .int .i64 x.want.start, .int .i64 x.want.dies, .int .i64 x.want.grace] rfl
    have HZf : Hid (Blk w.heap.size #[.string x.want.copy, .int .i64 x.want.version, .string x.want.hold, .int .i64 x.want.pull, .int .i64 x.want.start, .int .i64 x.want.dies, .int .i64 x.want.grace, .int .i64 x.state, .int .i64 x.left, .int .i64 x.falls, .int .i64 x.until_] 26 (we.setCells (w.heap.size + 1) 0 [.string x.want.copy, .int .i64 x.want.version, .string x.want.hold, .int .i64 x.want.pull, .int .i64 x.want.start, .int .i64 x.want.dies, .int .i64 x.want.grace])) := blk_setCells_other (by omega) _ _ _ HZe.out
    have hbs : Below w.heap.size we (we.setCells (w.heap.size + 1) 0 [.string x.want.copy, .int .i64 x.want.version, .string x.want.hold, .int .i64 x.want.pull, .int .i64 x.want.start, .int .i64 x.want.dies, .int .i64 x.want.grace]) := below_setCells (by omega) _ _ _ (Below.refl _ _)
    have hBf := hBe.trans hbs
    refine hK.out _ _ ⟨blk_setCells_other (by omega) _ _ _ hS.1, blk_setCells_other (by omega) _ _ _ hS.2⟩ (fun hS => ?_)
    clear hK K hbs
    generalize (we.setCells (w.heap.size + 1) 0 [.string x.want.copy, .int .i64 x.want.version, .string x.want.hold, .int .i64 x.want.pull, .int .i64 x.want.start, .int .i64 x.want.dies, .int .i64 x.want.grace]) = wf at *
    refine wpAnyH_take (i := 5) (oi := { dst := some 4, op := _, type := _, pos := _, after := _, guard := none }) (v := .bool true) rfl (by kernel_rfl) (by kernel_rfl) (by kernel_rfl) (fun _ _ _ h => h) (Or.inl ⟨by rfl, ?_⟩) hS ?_
    · intro wy hy
      clear hy
      go_simp
    simp only [Act.put, List.setIfInBounds_toArray, List.set_cons_zero, List.set_cons_succ]
    refine wpAnyH_take (i := 6) (oi := { dst := some 5, op := _, type := _, pos := _, after := _, guard := none }) (v := .int .i64 (c : Int)) rfl (by kernel_rfl) (by kernel_rfl) (by kernel_rfl) (fun _ _ _ h => h) (Or.inl ⟨by rfl, ?_⟩) hS ?_
    · intro wy hy
      clear hy
      go_simp
    simp only [Act.put, List.setIfInBounds_toArray, List.set_cons_zero, List.set_cons_succ]
    refine wpAnyH_done (by kernel_rfl) ?_ _
    clear hS
    go_wp2_with fail
    exact bodyPost_ret (results_cells4 rfl _ _ w.heap.size [.string x.want.copy, .int .i64 x.want.version, .string x.want.hold, .int .i64 x.want.pull, .int .i64 x.want.start, .int .i64 x.want.dies, .int .i64 x.want.grace, .int .i64 x.state, .int .i64 x.left, .int .i64 x.falls, .int .i64 x.until_] _ (w.heap.size + 1) [.string x.want.copy, .int .i64 x.want.version, .string x.want.hold, .int .i64 x.want.pull, .int .i64 x.want.start, .int .i64 x.want.dies, .int .i64 x.want.grace] _ rfl HZf.out.rangeA Try.underlying26 rfl isz_Rn rfl HYf.out.rangeA Try.underlying24 rfl isz_Wnt) rfl ⟨x, x.want, true, (c : Int), rfl, x0, x2, by omega, by omega, hBf⟩
  · clear HR8
    go_upto_region 16 with fail
    refine wp_region_held_drew (S := fun wy => Blk q #[.string x.want.copy, .int .i64 x.want.version, .string x.want.hold, .int .i64 x.want.pull, .int .i64 x.want.start, .int .i64 x.want.dies, .int .i64 x.want.grace, .int .i64 x.state, .int .i64 x.left, .int .i64 x.falls, .int .i64 x.until_] 26 wy ∧ Blk (q + 1) #[.string x.want.copy, .int .i64 x.want.version, .string x.want.hold, .int .i64 x.want.pull, .int .i64 x.want.start, .int .i64 x.want.dies, .int .i64 x.want.grace] 24 wy) (by kernel_rfl) ⟨HX8.out.drew, HW8.out.drew⟩ (fun hS => ?_)
    have hBd : Below w.heap.size w w8.drew := hB8.trans ((Below.refl w.heap.size w8).drew)
    have HZd : Hid (Blk w.heap.size #[.string ⟨#[]⟩, .int .i64 0, .string ⟨#[]⟩, .int .i64 0, .int .i64 0, .int .i64 0, .int .i64 0, .int .i64 0, .int .i64 0, .int .i64 0, .int .i64 0] 26 w8.drew) := HZ8.out.drew
    have HYd : Hid (Blk (w.heap.size + 1) #[.string ⟨#[]⟩, .int .i64 0, .string ⟨#[]⟩, .int .i64 0, .int .i64 0, .int .i64 0, .int .i64 0] 24 w8.drew) := HY8.out.drew
    generalize w8.drew = wd at *
    refine wpAnyH_take (i := 0) (oi := { dst := some 43, op := _, type := _, pos := _, after := _, guard := none }) (v := .agg #[.string x.want.copy, .int .i64 x.want.version, .string x.want.hold, .int .i64 x.want.pull, .int .i64 x.want.start, .int .i64 x.want.dies, .int .i64 x.want.grace, .int .i64 x.state, .int .i64 x.left, .int .i64 x.falls, .int .i64 x.until_]) rfl (by kernel_rfl) (by kernel_rfl) (by kernel_rfl) (fun _ _ _ h => h) (yieldsIf_load_mid (by rfl) _ _ rfl q (0) rfl [.string x.want.copy, .int .i64 x.want.version, .string x.want.hold, .int .i64 x.want.pull, .int .i64 x.want.start, .int .i64 x.want.dies, .int .i64 x.want.grace, .int .i64 x.state, .int .i64 x.left, .int .i64 x.falls, .int .i64 x.until_] _ (fun _ h => h.1.rangeA) Try.underlying26 rfl isz_Rn) hS ?_
    simp only [Act.put, List.setIfInBounds_toArray, List.set_cons_zero, List.set_cons_succ]
    refine wpAnyH_take (i := 1) (oi := { dst := some 44, op := _, type := _, pos := _, after := _, guard := none }) (v := .agg #[.string x.want.copy, .int .i64 x.want.version, .string x.want.hold, .int .i64 x.want.pull, .int .i64 x.want.start, .int .i64 x.want.dies, .int .i64 x.want.grace]) rfl (by kernel_rfl) (by kernel_rfl) (by kernel_rfl) (fun _ _ _ h => h) (yieldsIf_load_mid (by rfl) _ _ rfl (q + 1) (0) rfl [.string x.want.copy, .int .i64 x.want.version, .string x.want.hold, .int .i64 x.want.pull, .int .i64 x.want.start, .int .i64 x.want.dies, .int .i64 x.want.grace] _ (fun _ h => h.2.rangeA) Try.underlying24 rfl isz_Wnt) hS ?_
    simp only [Act.put, List.setIfInBounds_toArray, List.set_cons_zero, List.set_cons_succ]
    refine wpAnyH_take (i := 2) (oi := { dst := some 45, op := _, type := _, pos := _, after := _, guard := none }) (v := .int .i64 (c : Int)) rfl (by kernel_rfl) (by kernel_rfl) (by kernel_rfl) (fun _ _ _ h => h) (Or.inl ⟨by rfl, ?_⟩) hS ?_
    · intro wy hy
      clear hy
      go_simp
    simp only [Act.put, List.setIfInBounds_toArray, List.set_cons_zero, List.set_cons_succ]
    refine wpAnyH_ready (rs := [3]) (by kernel_rfl) (by simp) (AllReadyH.cons (o := { dst := none, op := _, type := _, pos := _, after := _, guard := none }) rfl (fun K hK => ?_) AllReadyH.nil)
    rw [if_pos (by rfl)]
    refine wp_store_mid 26 (.tmp 2) (.tmp 43) (by rfl) w.heap.size 0 #[.string x.want.copy, .int .i64 x.want.version, .string x.want.hold, .int .i64 x.want.pull, .int .i64 x.want.start, .int .i64 x.want.dies, .int .i64 x.want.grace, .int .i64 x.state, .int .i64 x.left, .int .i64 x.falls, .int .i64 x.until_] (by rfl) (by rfl) HZd.out.there isz_Rn (by simp [Value.oneCell']) ?_
    have HZe : Hid (Blk w.heap.size #[.string x.want.copy, .int .i64 x.want.version, .string x.want.hold, .int .i64 x.want.pull, .int .i64 x.want.start, .int .i64 x.want.dies, .int .i64 x.want.grace, .int .i64 x.state, .int .i64 x.left, .int .i64 x.falls, .int .i64 x.until_] 26 (wd.setCells w.heap.size 0 [.string x.want.copy, .int .i64 x.want.version, .string x.want.hold, .int .i64 x.want.pull, .int .i64 x.want.start, .int .i64 x.want.dies, .int .i64 x.want.grace, .int .i64 x.state, .int .i64 x.left, .int .i64 x.falls, .int .i64 x.until_])) := HZd.out.setAll #[.string x.want.copy, .int .i64 x.want.version, .string x.want.hold, .int .i64 x.want.pull, .int .i64 x.want.start, .int .i64 x.want.dies, .int .i64 x.want.grace, .int .i64 x.state, .int .i64 x.left, .int .i64 x.falls, .int .i64 x.until_] rfl
    have HYe : Hid (Blk (w.heap.size + 1) #[.string ⟨#[]⟩, .int .i64 0, .string ⟨#[]⟩, .int .i64 0, .int .i64 0, .int .i64 0, .int .i64 0] 24 (wd.setCells w.heap.size 0 [.string x.want.copy, .int .i64 x.want.version, .string x.want.hold, .int .i64 x.want.pull, .int .i64 x.want.start, .int .i64 x.want.dies, .int .i64 x.want.grace, .int .i64 x.state, .int .i64 x.left, .int .i64 x.falls, .int .i64 x.until_])) := blk_setCells_other (by omega) _ _ _ HYd.out
    have hbs : Below w.heap.size wd (wd.setCells w.heap.size 0 [.string x.want.copy, .int .i64 x.want.version, .string x.want.hold, .int .i64 x.want.pull, .int .i64 x.want.start, .int .i64 x.want.dies, .int .i64 x.want.grace, .int .i64 x.state, .int .i64 x.left, .int .i64 x.falls, .int .i64 x.until_]) := below_setCells (by omega) _ _ _ (Below.refl _ _)
    have hBe := hBd.trans hbs
    refine hK.out _ _ ⟨blk_setCells_other (by omega) _ _ _ hS.1, blk_setCells_other (by omega) _ _ _ hS.2⟩ (fun hS => ?_)
    clear hK K hbs
    generalize (wd.setCells w.heap.size 0 [.string x.want.copy, .int .i64 x.want.version, .string x.want.hold, .int .i64 x.want.pull, .int .i64 x.want.start, .int .i64 x.want.dies, .int .i64 x.want.grace, .int .i64 x.state, .int .i64 x.left, .int .i64 x.falls, .int .i64 x.until_]) = we at *
    refine wpAnyH_ready (rs := [4]) (by kernel_rfl) (by simp) (AllReadyH.cons (o := { dst := none, op := _, type := _, pos := _, after := _, guard := none }) rfl (fun K hK => ?_) AllReadyH.nil)
    rw [if_pos (by rfl)]
    refine wp_store_mid 24 (.tmp 3) (.tmp 44) (by rfl) (w.heap.size + 1) 0 #[.string x.want.copy, .int .i64 x.want.version, .string x.want.hold, .int .i64 x.want.pull, .int .i64 x.want.start, .int .i64 x.want.dies, .int .i64 x.want.grace] (by rfl) (by rfl) HYe.out.there isz_Wnt (by simp [Value.oneCell']) ?_
    have HYf : Hid (Blk (w.heap.size + 1) #[.string x.want.copy, .int .i64 x.want.version, .string x.want.hold, .int .i64 x.want.pull, .int .i64 x.want.start, .int .i64 x.want.dies, .int .i64 x.want.grace] 24 (we.setCells (w.heap.size + 1) 0 [.string x.want.copy, .int .i64 x.want.version, .string x.want.hold, .int .i64 x.want.pull, .int .i64 x.want.start, .int .i64 x.want.dies, .int .i64 x.want.grace])) := HYe.out.setAll #[.string x.want.copy, .int .i64 x.want.version, .string x.want.hold, .int .i64 x.want.pull, .int .i64 x.want.start, .int .i64 x.want.dies, .int .i64 x.want.grace] rfl
    have HZf : Hid (Blk w.heap.size #[.string x.want.copy, .int .i64 x.want.version, .string x.want.hold, .int .i64 x.want.pull, .int .i64 x.want.start, .int .i64 x.want.dies, .int .i64 x.want.grace, .int .i64 x.state, .int .i64 x.left, .int .i64 x.falls, .int .i64 x.until_] 26 (we.setCells (w.heap.size + 1) 0 [.string x.want.copy, .int .i64 x.want.version, .string x.want.hold, .int .i64 x.want.pull, .int .i64 x.want.start, .int .i64 x.want.dies, .int .i64 x.want.grace])) := blk_setCells_other (by omega) _ _ _ HZe.out
    have hbs : Below w.heap.size we (we.setCells (w.heap.size + 1) 0 [.string x.want.copy, .int .i64 x.want.version, .string x.want.hold, .int .i64 x.want.pull, .int .i64 x.want.start, .int .i64 x.want.dies, .int .i64 x.want.grace]) := below_setCells (by omega) _ _ _ (Below.refl _ _)
    have hBf := hBe.trans hbs
    refine hK.out _ _ ⟨blk_setCells_other (by omega) _ _ _ hS.1, blk_setCells_other (by omega) _ _ _ hS.2⟩ (fun hS => ?_)
    clear hK K hbs
    generalize (we.setCells (w.heap.size + 1) 0 [.string x.want.copy, .int .i64 x.want.version, .string x.want.hold, .int .i64 x.want.pull, .int .i64 x.want.start, .int .i64 x.want.dies, .int .i64 x.want.grace]) = wf at *
    refine wpAnyH_take (i := 5) (oi := { dst := some 4, op := _, type := _, pos := _, after := _, guard := none }) (v := .bool true) rfl (by kernel_rfl) (by kernel_rfl) (by kernel_rfl) (fun _ _ _ h => h) (Or.inl ⟨by rfl, ?_⟩) hS ?_
    · intro wy hy
      clear hy
      go_simp
    simp only [Act.put, List.setIfInBounds_toArray, List.set_cons_zero, List.set_cons_succ]
    refine wpAnyH_take (i := 6) (oi := { dst := some 5, op := _, type := _, pos := _, after := _, guard := none }) (v := .int .i64 (c : Int)) rfl (by kernel_rfl) (by kernel_rfl) (by kernel_rfl) (fun _ _ _ h => h) (Or.inl ⟨by rfl, ?_⟩) hS ?_
    · intro wy hy
      clear hy
      go_simp
    simp only [Act.put, List.setIfInBounds_toArray, List.set_cons_zero, List.set_cons_succ]
    refine wpAnyH_done (by kernel_rfl) ?_ _
    clear hS
    go_wp2_with fail
    exact bodyPost_ret (results_cells4 rfl _ _ w.heap.size [.string x.want.copy, .int .i64 x.want.version, .string x.want.hold, .int .i64 x.want.pull, .int .i64 x.want.start, .int .i64 x.want.dies, .int .i64 x.want.grace, .int .i64 x.state, .int .i64 x.left, .int .i64 x.falls, .int .i64 x.until_] _ (w.heap.size + 1) [.string x.want.copy, .int .i64 x.want.version, .string x.want.hold, .int .i64 x.want.pull, .int .i64 x.want.start, .int .i64 x.want.dies, .int .i64 x.want.grace] _ rfl HZf.out.rangeA Try.underlying26 rfl isz_Rn rfl HYf.out.rangeA Try.underlying24 rfl isz_Wnt) rfl ⟨x, x.want, true, (c : Int), rfl, x0, x2, by omega, by omega, hBf⟩
  · clear HR8
    go_upto_region 16 with fail
    refine wp_region_held_drew (S := fun wy => Blk q #[.string x.want.copy, .int .i64 x.want.version, .string x.want.hold, .int .i64 x.want.pull, .int .i64 x.want.start, .int .i64 x.want.dies, .int .i64 x.want.grace, .int .i64 x.state, .int .i64 x.left, .int .i64 x.falls, .int .i64 x.until_] 26 wy ∧ Blk (q + 1) #[.string x.want.copy, .int .i64 x.want.version, .string x.want.hold, .int .i64 x.want.pull, .int .i64 x.want.start, .int .i64 x.want.dies, .int .i64 x.want.grace] 24 wy) (by kernel_rfl) ⟨HX8.out.drew, HW8.out.drew⟩ (fun hS => ?_)
    have hBd : Below w.heap.size w w8.drew := hB8.trans ((Below.refl w.heap.size w8).drew)
    have HZd : Hid (Blk w.heap.size #[.string ⟨#[]⟩, .int .i64 0, .string ⟨#[]⟩, .int .i64 0, .int .i64 0, .int .i64 0, .int .i64 0, .int .i64 0, .int .i64 0, .int .i64 0, .int .i64 0] 26 w8.drew) := HZ8.out.drew
    have HYd : Hid (Blk (w.heap.size + 1) #[.string ⟨#[]⟩, .int .i64 0, .string ⟨#[]⟩, .int .i64 0, .int .i64 0, .int .i64 0, .int .i64 0] 24 w8.drew) := HY8.out.drew
    generalize w8.drew = wd at *
    refine wpAnyH_take (i := 0) (oi := { dst := some 43, op := _, type := _, pos := _, after := _, guard := none }) (v := .agg #[.string x.want.copy, .int .i64 x.want.version, .string x.want.hold, .int .i64 x.want.pull, .int .i64 x.want.start, .int .i64 x.want.dies, .int .i64 x.want.grace, .int .i64 x.state, .int .i64 x.left, .int .i64 x.falls, .int .i64 x.until_]) rfl (by kernel_rfl) (by kernel_rfl) (by kernel_rfl) (fun _ _ _ h => h) (yieldsIf_load_mid (by rfl) _ _ rfl q (0) rfl [.string x.want.copy, .int .i64 x.want.version, .string x.want.hold, .int .i64 x.want.pull, .int .i64 x.want.start, .int .i64 x.want.dies, .int .i64 x.want.grace, .int .i64 x.state, .int .i64 x.left, .int .i64 x.falls, .int .i64 x.until_] _ (fun _ h => h.1.rangeA) Try.underlying26 rfl isz_Rn) hS ?_
    simp only [Act.put, List.setIfInBounds_toArray, List.set_cons_zero, List.set_cons_succ]
    refine wpAnyH_take (i := 1) (oi := { dst := some 44, op := _, type := _, pos := _, after := _, guard := none }) (v := .agg #[.string x.want.copy, .int .i64 x.want.version, .string x.want.hold, .int .i64 x.want.pull, .int .i64 x.want.start, .int .i64 x.want.dies, .int .i64 x.want.grace]) rfl (by kernel_rfl) (by kernel_rfl) (by kernel_rfl) (fun _ _ _ h => h) (yieldsIf_load_mid (by rfl) _ _ rfl (q + 1) (0) rfl [.string x.want.copy, .int .i64 x.want.version, .string x.want.hold, .int .i64 x.want.pull, .int .i64 x.want.start, .int .i64 x.want.dies, .int .i64 x.want.grace] _ (fun _ h => h.2.rangeA) Try.underlying24 rfl isz_Wnt) hS ?_
    simp only [Act.put, List.setIfInBounds_toArray, List.set_cons_zero, List.set_cons_succ]
    refine wpAnyH_take (i := 2) (oi := { dst := some 45, op := _, type := _, pos := _, after := _, guard := none }) (v := .int .i64 (c : Int)) rfl (by kernel_rfl) (by kernel_rfl) (by kernel_rfl) (fun _ _ _ h => h) (Or.inl ⟨by rfl, ?_⟩) hS ?_
    · intro wy hy
      clear hy
      go_simp
    simp only [Act.put, List.setIfInBounds_toArray, List.set_cons_zero, List.set_cons_succ]
    refine wpAnyH_ready (rs := [3]) (by kernel_rfl) (by simp) (AllReadyH.cons (o := { dst := none, op := _, type := _, pos := _, after := _, guard := none }) rfl (fun K hK => ?_) AllReadyH.nil)
    rw [if_pos (by rfl)]
    refine wp_store_mid 26 (.tmp 2) (.tmp 43) (by rfl) w.heap.size 0 #[.string x.want.copy, .int .i64 x.want.version, .string x.want.hold, .int .i64 x.want.pull, .int .i64 x.want.start, .int .i64 x.want.dies, .int .i64 x.want.grace, .int .i64 x.state, .int .i64 x.left, .int .i64 x.falls, .int .i64 x.until_] (by rfl) (by rfl) HZd.out.there isz_Rn (by simp [Value.oneCell']) ?_
    have HZe : Hid (Blk w.heap.size #[.string x.want.copy, .int .i64 x.want.version, .string x.want.hold, .int .i64 x.want.pull, .int .i64 x.want.start, .int .i64 x.want.dies, .int .i64 x.want.grace, .int .i64 x.state, .int .i64 x.left, .int .i64 x.falls, .int .i64 x.until_] 26 (wd.setCells w.heap.size 0 [.string x.want.copy, .int .i64 x.want.version, .string x.want.hold, .int .i64 x.want.pull, .int .i64 x.want.start, .int .i64 x.want.dies, .int .i64 x.want.grace, .int .i64 x.state, .int .i64 x.left, .int .i64 x.falls, .int .i64 x.until_])) := HZd.out.setAll #[.string x.want.copy, .int .i64 x.want.version, .string x.want.hold, .int .i64 x.want.pull, .int .i64 x.want.start, .int .i64 x.want.dies, .int .i64 x.want.grace, .int .i64 x.state, .int .i64 x.left, .int .i64 x.falls, .int .i64 x.until_] rfl
    have HYe : Hid (Blk (w.heap.size + 1) #[.string ⟨#[]⟩, .int .i64 0, .string ⟨#[]⟩, .int .i64 0, .int .i64 0, .int .i64 0, .int .i64 0] 24 (wd.setCells w.heap.size 0 [.string x.want.copy, .int .i64 x.want.version, .string x.want.hold, .int .i64 x.want.pull, .int .i64 x.want.start, .int .i64 x.want.dies, .int .i64 x.want.grace, .int .i64 x.state, .int .i64 x.left, .int .i64 x.falls, .int .i64 x.until_])) := blk_setCells_other (by omega) _ _ _ HYd.out
    have hbs : Below w.heap.size wd (wd.setCells w.heap.size 0 [.string x.want.copy, .int .i64 x.want.version, .string x.want.hold, .int .i64 x.want.pull, .int .i64 x.want.start, .int .i64 x.want.dies, .int .i64 x.want.grace, .int .i64 x.state, .int .i64 x.left, .int .i64 x.falls, .int .i64 x.until_]) := below_setCells (by omega) _ _ _ (Below.refl _ _)
    have hBe := hBd.trans hbs
    refine hK.out _ _ ⟨blk_setCells_other (by omega) _ _ _ hS.1, blk_setCells_other (by omega) _ _ _ hS.2⟩ (fun hS => ?_)
    clear hK K hbs
    generalize (wd.setCells w.heap.size 0 [.string x.want.copy, .int .i64 x.want.version, .string x.want.hold, .int .i64 x.want.pull, .int .i64 x.want.start, .int .i64 x.want.dies, .int .i64 x.want.grace, .int .i64 x.state, .int .i64 x.left, .int .i64 x.falls, .int .i64 x.until_]) = we at *
    refine wpAnyH_ready (rs := [4]) (by kernel_rfl) (by simp) (AllReadyH.cons (o := { dst := none, op := _, type := _, pos := _, after := _, guard := none }) rfl (fun K hK => ?_) AllReadyH.nil)
    rw [if_pos (by rfl)]
    refine wp_store_mid 24 (.tmp 3) (.tmp 44) (by rfl) (w.heap.size + 1) 0 #[.string x.want.copy, .int .i64 x.want.version, .string x.want.hold, .int .i64 x.want.pull, .int .i64 x.want.start, .int .i64 x.want.dies, .int .i64 x.want.grace] (by rfl) (by rfl) HYe.out.there isz_Wnt (by simp [Value.oneCell']) ?_
    have HYf : Hid (Blk (w.heap.size + 1) #[.string x.want.copy, .int .i64 x.want.version, .string x.want.hold, .int .i64 x.want.pull, .int .i64 x.want.start, .int .i64 x.want.dies, .int .i64 x.want.grace] 24 (we.setCells (w.heap.size + 1) 0 [.string x.want.copy, .int .i64 x.want.version, .string x.want.hold, .int .i64 x.want.pull, .int .i64 x.want.start, .int .i64 x.want.dies, .int .i64 x.want.grace])) := HYe.out.setAll #[.string x.want.copy, .int .i64 x.want.version, .string x.want.hold, .int .i64 x.want.pull, .int .i64 x.want.start, .int .i64 x.want.dies, .int .i64 x.want.grace] rfl
    have HZf : Hid (Blk w.heap.size #[.string x.want.copy, .int .i64 x.want.version, .string x.want.hold, .int .i64 x.want.pull, .int .i64 x.want.start, .int .i64 x.want.dies, .int .i64 x.want.grace, .int .i64 x.state, .int .i64 x.left, .int .i64 x.falls, .int .i64 x.until_] 26 (we.setCells (w.heap.size + 1) 0 [.string x.want.copy, .int .i64 x.want.version, .string x.want.hold, .int .i64 x.want.pull, .int .i64 x.want.start, .int .i64 x.want.dies, .int .i64 x.want.grace])) := blk_setCells_other (by omega) _ _ _ HZe.out
    have hbs : Below w.heap.size we (we.setCells (w.heap.size + 1) 0 [.string x.want.copy, .int .i64 x.want.version, .string x.want.hold, .int .i64 x.want.pull, .int .i64 x.want.start, .int .i64 x.want.dies, .int .i64 x.want.grace]) := below_setCells (by omega) _ _ _ (Below.refl _ _)
    have hBf := hBe.trans hbs
    refine hK.out _ _ ⟨blk_setCells_other (by omega) _ _ _ hS.1, blk_setCells_other (by omega) _ _ _ hS.2⟩ (fun hS => ?_)
    clear hK K hbs
    generalize (we.setCells (w.heap.size + 1) 0 [.string x.want.copy, .int .i64 x.want.version, .string x.want.hold, .int .i64 x.want.pull, .int .i64 x.want.start, .int .i64 x.want.dies, .int .i64 x.want.grace]) = wf at *
    refine wpAnyH_take (i := 5) (oi := { dst := some 4, op := _, type := _, pos := _, after := _, guard := none }) (v := .bool true) rfl (by kernel_rfl) (by kernel_rfl) (by kernel_rfl) (fun _ _ _ h => h) (Or.inl ⟨by rfl, ?_⟩) hS ?_
    · intro wy hy
      clear hy
      go_simp
    simp only [Act.put, List.setIfInBounds_toArray, List.set_cons_zero, List.set_cons_succ]
    refine wpAnyH_take (i := 6) (oi := { dst := some 5, op := _, type := _, pos := _, after := _, guard := none }) (v := .int .i64 (c : Int)) rfl (by kernel_rfl) (by kernel_rfl) (by kernel_rfl) (fun _ _ _ h => h) (Or.inl ⟨by rfl, ?_⟩) hS ?_
    · intro wy hy
      clear hy
      go_simp
    simp only [Act.put, List.setIfInBounds_toArray, List.set_cons_zero, List.set_cons_succ]
    refine wpAnyH_done (by kernel_rfl) ?_ _
    clear hS
    go_wp2_with fail
    exact bodyPost_ret (results_cells4 rfl _ _ w.heap.size [.string x.want.copy, .int .i64 x.want.version, .string x.want.hold, .int .i64 x.want.pull, .int .i64 x.want.start, .int .i64 x.want.dies, .int .i64 x.want.grace, .int .i64 x.state, .int .i64 x.left, .int .i64 x.falls, .int .i64 x.until_] _ (w.heap.size + 1) [.string x.want.copy, .int .i64 x.want.version, .string x.want.hold, .int .i64 x.want.pull, .int .i64 x.want.start, .int .i64 x.want.dies, .int .i64 x.want.grace] _ rfl HZf.out.rangeA Try.underlying26 rfl isz_Rn rfl HYf.out.rangeA Try.underlying24 rfl isz_Wnt) rfl ⟨x, x.want, true, (c : Int), rfl, x0, x2, by omega, by omega, hBf⟩

end Go.Proofs.Ytalnkbocfhhjkaa
