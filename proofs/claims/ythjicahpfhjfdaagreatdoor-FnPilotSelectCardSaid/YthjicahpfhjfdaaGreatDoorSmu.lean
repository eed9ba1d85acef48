/-
  Walks: the specification asks whether marks are as a tree of nodes asks: nodes with kids (made by mksmu.py).
-/
import Derived.Test.YthjicahpfhjfdaaGreatDoorSmt
import Derived.BigQuiet
import Derived.Sort.AtCall
namespace Go.Proofs.YthjicahpfhjfdaaGreatDoor
open Go.RowKit

set_option maxHeartbeats 8000000 in
set_option maxRecDepth 100000 in
theorem meetNt_any (ns : List P.Nd) (out : List (List Nat)) (n cn co go g : Nat) (ms : List ByteArray) (am : Option Addr) (cm : Nat) (k a : Nat) (t : P.Tr) (nd : P.Nd) (hol : out.length = n) (hnd : ns[k]? = some nd) (hk : nd.kind = 3) (hout : out[k]? = some [a])
    (ih : MeetOk ns out n cn co go g ms am cm a t) : MeetOk ns out n cn co go g ms am cm k (P.ntT t) := by
  intro w hN hK hM
  have hkl := P.getElem?_lt hnd
  have hlt := hN.1
  have hml : ms.length ≤ maxLen := hM.1
  unfold maxLen at hml
  have hNN : Hid (Nodes0 w g ns) := hN
  have hKK : Hid (KidsIn w go out) := hK
  have hMM : Hid (SliceC StrC 1 0 w am ms) := hM
  have q0 : ∀ o1, (w.alloc o1).cell? ⟨g, k * 4, none⟩ = some (.int .i64 3) := fun o1 => ((bcell ((Below.refl w.heap.size w).alloc (Nat.le_refl _) o1)).1 _ _ hlt).trans (by rw [← hk]; exact (hN.2 k nd hnd).1)
  have q1 : ∀ o1, (w.alloc o1).cell? ⟨g, k * 4 + 1, none⟩ = some (.string nd.name) := fun o1 => ((bcell ((Below.refl w.heap.size w).alloc (Nat.le_refl _) o1)).1 _ _ hlt).trans (hN.2 k nd hnd).2.1
  have q2 : ∀ o1, (w.alloc o1).cell? ⟨g, k * 4 + 2, none⟩ = some (.string nd.value) := fun o1 => ((bcell ((Below.refl w.heap.size w).alloc (Nat.le_refl _) o1)).1 _ _ hlt).trans (hN.2 k nd hnd).2.2.1
  have q3 : ∀ o1, (w.alloc o1).cell? ⟨g, k * 4 + 3, none⟩ = some (.int .i64 nd.kids) := fun o1 => ((bcell ((Below.refl w.heap.size w).alloc (Nat.le_refl _) o1)).1 _ _ hlt).trans (hN.2 k nd hnd).2.2.2
  obtain ⟨gk, c, k0, k1⟩ := kids_one hK hout
  have hkn := out_lt hol hout
  have hgk : gk < w.heap.size := block_lt_of_cell k1
  have HB0 : Hid (Below w.heap.size w ((w.alloc (Obj.cells #[.slice (some ⟨g, 0, none⟩) ns.length cn] 25)).alloc (Obj.cells #[.int .i64 3, .string nd.name, .string nd.value, .int .i64 nd.kids] 36))) := ((Below.refl w.heap.size w).alloc (Nat.le_refl _) _).alloc (by simp) _
  have m0 := cell_regrown ((HB0.out.cell (p := ⟨go, k, none⟩) hK.1).trans k0)
  have m1 := cell_regrown ((HB0.out.cell (p := ⟨gk, 0, none⟩) hgk).trans k1)
  have s0 := cell_regrown (show ((w.alloc (Obj.cells #[.slice (some ⟨g, 0, none⟩) ns.length cn] 25)).alloc (Obj.cells #[.int .i64 3, .string nd.name, .string nd.value, .int .i64 nd.kids] 36)).cell? ⟨w.heap.size, 0, none⟩ = some (.slice (some ⟨g, 0, none⟩) ns.length cn) by simp)
  have cA : ∀ d os, Calls Tryz.prog 30 #[.agg #[.slice (some ⟨g, 0, none⟩) ns.length cn], .slice (some ⟨go, 0, none⟩) n co, .int .i64 (a : Int), .slice am ms.length cm] (Sort.grow (redrawn ((w.alloc (Obj.cells #[.slice (some ⟨g, 0, none⟩) ns.length cn] 25)).alloc (Obj.cells #[.int .i64 3, .string nd.name, .string nd.value, .int .i64 nd.kids] 36)) d) os) fun e w'' => e = .returned (.bool (meetsS ms t)) ∧ ∃ p : Regrown, w'' = Sort.grow (redrawn ((w.alloc (Obj.cells #[.slice (some ⟨g, 0, none⟩) ns.length cn] 25)).alloc (Obj.cells #[.int .i64 3, .string nd.name, .string nd.value, .int .i64 nd.kids] 36)) p.d) p.os :=
    fun d os => Calls.regrown_of (ih _ ((hNN.out.grown HB0.out).grown (below_regrown _ d os)) ((hKK.out.grown HB0.out).grown (below_regrown _ d os)) ((hMM.out.below StrC.holds HB0.out (Nat.le_refl _)).below StrC.holds (below_regrown _ d os) (Nat.le_refl _)))
  show Calls _ _ _ _ fun e w' => e = .returned (.bool (!meetsS ms t)) ∧ _
  clear hN hK hnd hk hM hNN hKK hMM k0 k1 hout ih
  generalize meetsS ms t = X at *
  generalize ((a : Nat) : Int) = ia at *
  go_enter Tryz.func30, Tryz.ntmps30
  go_wp2_with fail
  clear q0 q1 q2 q3
  generalize ((w.alloc (Obj.cells #[.slice (some ⟨g, 0, none⟩) ns.length cn] 25)).alloc (Obj.cells #[.int .i64 3, .string nd.name, .string nd.value, .int .i64 nd.kids] 36)) = W at *
  cases X
  all_goals
    refine wp_region_quiet_below (by kernel_rfl) (by kernel_rfl) ?_
    repeat (go_big_quiet_step (first | (go_at_call 30; exact cA _ _)))
    refine wpQuiet_nil ?_
    intro w5 hw'
    obtain ⟨⟨dq, osq⟩, hw''⟩ := hw'
    have hB := below_regrown W dq osq
    simp only [] at hw''
    rw [← hw''] at hB
    have HB5 : Hid (Below w.heap.size w w5) := HB0.out.trans (hB.mono HB0.out.size)
    clear hw'' hB
    go_wp2_with fail
    go_ret
    exact ⟨rfl, HB5.out⟩

set_option maxHeartbeats 8000000 in
set_option maxRecDepth 100000 in
theorem meetAn_any (ns : List P.Nd) (out : List (List Nat)) (n cn co go g : Nat) (ms : List ByteArray) (am : Option Addr) (cm : Nat) (k a b : Nat) (t u : P.Tr) (nd : P.Nd) (hol : out.length = n) (hnd : ns[k]? = some nd) (hk : nd.kind = 4) (hout : out[k]? = some [a, b])
    (ih : MeetOk ns out n cn co go g ms am cm a t) (ih' : MeetOk ns out n cn co go g ms am cm b u) : MeetOk ns out n cn co go g ms am cm k (P.anT t u) := by
  intro w hN hK hM
  have hkl := P.getElem?_lt hnd
  have hlt := hN.1
  have hml : ms.length ≤ maxLen := hM.1
  unfold maxLen at hml
  have hNN : Hid (Nodes0 w g ns) := hN
  have hKK : Hid (KidsIn w go out) := hK
  have hMM : Hid (SliceC StrC 1 0 w am ms) := hM
  have q0 : ∀ o1, (w.alloc o1).cell? ⟨g, k * 4, none⟩ = some (.int .i64 4) := fun o1 => ((bcell ((Below.refl w.heap.size w).alloc (Nat.le_refl _) o1)).1 _ _ hlt).trans (by rw [← hk]; exact (hN.2 k nd hnd).1)
  have q1 : ∀ o1, (w.alloc o1).cell? ⟨g, k * 4 + 1, none⟩ = some (.string nd.name) := fun o1 => ((bcell ((Below.refl w.heap.size w).alloc (Nat.le_refl _) o1)).1 _ _ hlt).trans (hN.2 k nd hnd).2.1
  have q2 : ∀ o1, (w.alloc o1).cell? ⟨g, k * 4 + 2, none⟩ = some (.string nd.value) := fun o1 => ((bcell ((Below.refl w.heap.size w).alloc (Nat.le_refl _) o1)).1 _ _ hlt).trans (hN.2 k nd hnd).2.2.1
  have q3 : ∀ o1, (w.alloc o1).cell? ⟨g, k * 4 + 3, none⟩ = some (.int .i64 nd.kids) := fun o1 => ((bcell ((Below.refl w.heap.size w).alloc (Nat.le_refl _) o1)).1 _ _ hlt).trans (hN.2 k nd hnd).2.2.2
  obtain ⟨gk, c, k0, k1, k2⟩ := kids_two hK hout
  have hkn := out_lt hol hout
  have hgk : gk < w.heap.size := block_lt_of_cell k1
  have HB0 : Hid (Below w.heap.size w ((w.alloc (Obj.cells #[.slice (some ⟨g, 0, none⟩) ns.length cn] 25)).alloc (Obj.cells #[.int .i64 4, .string nd.name, .string nd.value, .int .i64 nd.kids] 36))) := ((Below.refl w.heap.size w).alloc (Nat.le_refl _) _).alloc (by simp) _
  have m0 := cell_regrown ((HB0.out.cell (p := ⟨go, k, none⟩) hK.1).trans k0)
  have m1 := cell_regrown ((HB0.out.cell (p := ⟨gk, 0, none⟩) hgk).trans k1)
  have m2 := cell_regrown ((HB0.out.cell (p := ⟨gk, 1, none⟩) hgk).trans k2)
  have s0 := cell_regrown (show ((w.alloc (Obj.cells #[.slice (some ⟨g, 0, none⟩) ns.length cn] 25)).alloc (Obj.cells #[.int .i64 4, .string nd.name, .string nd.value, .int .i64 nd.kids] 36)).cell? ⟨w.heap.size, 0, none⟩ = some (.slice (some ⟨g, 0, none⟩) ns.length cn) by simp)
  have cA : ∀ d os, Calls Tryz.prog 30 #[.agg #[.slice (some ⟨g, 0, none⟩) ns.length cn], .slice (some ⟨go, 0, none⟩) n co, .int .i64 (a : Int), .slice am ms.length cm] (Sort.grow (redrawn ((w.alloc (Obj.cells #[.slice (some ⟨g, 0, none⟩) ns.length cn] 25)).alloc (Obj.cells #[.int .i64 4, .string nd.name, .string nd.value, .int .i64 nd.kids] 36)) d) os) fun e w'' => e = .returned (.bool (meetsS ms t)) ∧ ∃ p : Regrown, w'' = Sort.grow (redrawn ((w.alloc (Obj.cells #[.slice (some ⟨g, 0, none⟩) ns.length cn] 25)).alloc (Obj.cells #[.int .i64 4, .string nd.name, .string nd.value, .int .i64 nd.kids] 36)) p.d) p.os :=
    fun d os => Calls.regrown_of (ih _ ((hNN.out.grown HB0.out).grown (below_regrown _ d os)) ((hKK.out.grown HB0.out).grown (below_regrown _ d os)) ((hMM.out.below StrC.holds HB0.out (Nat.le_refl _)).below StrC.holds (below_regrown _ d os) (Nat.le_refl _)))
  have cB : ∀ d os, Calls Tryz.prog 30 #[.agg #[.slice (some ⟨g, 0, none⟩) ns.length cn], .slice (some ⟨go, 0, none⟩) n co, .int .i64 (b : Int), .slice am ms.length cm] (Sort.grow (redrawn ((w.alloc (Obj.cells #[.slice (some ⟨g, 0, none⟩) ns.length cn] 25)).alloc (Obj.cells #[.int .i64 4, .string nd.name, .string nd.value, .int .i64 nd.kids] 36)) d) os) fun e w'' => e = .returned (.bool (meetsS ms u)) ∧ ∃ p : Regrown, w'' = Sort.grow (redrawn ((w.alloc (Obj.cells #[.slice (some ⟨g, 0, none⟩) ns.length cn] 25)).alloc (Obj.cells #[.int .i64 4, .string nd.name, .string nd.value, .int .i64 nd.kids] 36)) p.d) p.os :=
    fun d os => Calls.regrown_of (ih' _ ((hNN.out.grown HB0.out).grown (below_regrown _ d os)) ((hKK.out.grown HB0.out).grown (below_regrown _ d os)) ((hMM.out.below StrC.holds HB0.out (Nat.le_refl _)).below StrC.holds (below_regrown _ d os) (Nat.le_refl _)))
  show Calls _ _ _ _ fun e w' => e = .returned (.bool (meetsS ms t && meetsS ms u)) ∧ _
  clear hN hK hnd hk hM hNN hKK hMM k0 k1 k2 hout ih ih'
  generalize meetsS ms t = X at *
  generalize meetsS ms u = Y at *
  generalize ((a : Nat) : Int) = ia at *
  generalize ((b : Nat) : Int) = ib at *
  go_enter Tryz.func30, Tryz.ntmps30
  go_wp2_with fail
  clear q0 q1 q2 q3
  generalize ((w.alloc (Obj.cells #[.slice (some ⟨g, 0, none⟩) ns.length cn] 25)).alloc (Obj.cells #[.int .i64 4, .string nd.name, .string nd.value, .int .i64 nd.kids] 36)) = W at *
  cases X
  all_goals
    refine wp_region_quiet_below (by kernel_rfl) (by kernel_rfl) ?_
    repeat (go_big_quiet_step (first | (go_at_call_has 30 ia; exact cA _ _) | (go_at_call_has 30 ib; exact cB _ _)))
    refine wpQuiet_nil ?_
    intro w5 hw'
    obtain ⟨⟨dq, osq⟩, hw''⟩ := hw'
    have hB := below_regrown W dq osq
    simp only [] at hw''
    rw [← hw''] at hB
    have HB5 : Hid (Below w.heap.size w w5) := HB0.out.trans (hB.mono HB0.out.size)
    clear hw'' hB
    go_wp2_with fail
    go_ret
    exact ⟨rfl, HB5.out⟩

set_option maxHeartbeats 8000000 in
set_option maxRecDepth 100000 in
theorem meetOr_any (ns : List P.Nd) (out : List (List Nat)) (n cn co go g : Nat) (ms : List ByteArray) (am : Option Addr) (cm : Nat) (k a b : Nat) (t u : P.Tr) (nd : P.Nd) (hol : out.length = n) (hnd : ns[k]? = some nd) (hk : nd.kind = 5) (hout : out[k]? = some [a, b])
    (ih : MeetOk ns out n cn co go g ms am cm a t) (ih' : MeetOk ns out n cn co go g ms am cm b u) : MeetOk ns out n cn co go g ms am cm k (P.orT t u) := by
  intro w hN hK hM
  have hkl := P.getElem?_lt hnd
  have hlt := hN.1
  have hml : ms.length ≤ maxLen := hM.1
  unfold maxLen at hml
  have hNN : Hid (Nodes0 w g ns) := hN
  have hKK : Hid (KidsIn w go out) := hK
  have hMM : Hid (SliceC StrC 1 0 w am ms) := hM
  have q0 : ∀ o1, (w.alloc o1).cell? ⟨g, k * 4, none⟩ = some (.int .i64 5) := fun o1 => ((bcell ((Below.refl w.heap.size w).alloc (Nat.le_refl _) o1)).1 _ _ hlt).trans (by rw [← hk]; exact (hN.2 k nd hnd).1)
  have q1 : ∀ o1, (w.alloc o1).cell? ⟨g, k * 4 + 1, none⟩ = some (.string nd.name) := fun o1 => ((bcell ((Below.refl w.heap.size w).alloc (Nat.le_refl _) o1)).1 _ _ hlt).trans (hN.2 k nd hnd).2.1
  have q2 : ∀ o1, (w.alloc o1).cell? ⟨g, k * 4 + 2, none⟩ = some (.string nd.value) := fun o1 => ((bcell ((Below.refl w.heap.size w).alloc (Nat.le_refl _) o1)).1 _ _ hlt).trans (hN.2 k nd hnd).2.2.1
  have q3 : ∀ o1, (w.alloc o1).cell? ⟨g, k * 4 + 3, none⟩ = some (.int .i64 nd.kids) := fun o1 => ((bcell ((Below.refl w.heap.size w).alloc (Nat.le_refl _) o1)).1 _ _ hlt).trans (hN.2 k nd hnd).2.2.2
  obtain ⟨gk, c, k0, k1, k2⟩ := kids_two hK hout
  have hkn := out_lt hol hout
  have hgk : gk < w.heap.size := block_lt_of_cell k1
  have HB0 : Hid (Below w.heap.size w ((w.alloc (Obj.cells #[.slice (some ⟨g, 0, none⟩) ns.length cn] 25)).alloc (Obj.cells #[.int .i64 5, .string nd.name, .string nd.value, .int .i64 nd.kids] 36))) := ((Below.refl w.heap.size w).alloc (Nat.le_refl _) _).alloc (by simp) _
  have m0 := cell_regrown ((HB0.out.cell (p := ⟨go, k, none⟩) hK.1).trans k0)
  have m1 := cell_regrown ((HB0.out.cell (p := ⟨gk, 0, none⟩) hgk).trans k1)
  have m2 := cell_regrown ((HB0.out.cell (p := ⟨gk, 1, none⟩) hgk).trans k2)
  have s0 := cell_regrown (show ((w.alloc (Obj.cells #[.slice (some ⟨g, 0, none⟩) ns.length cn] 25)).alloc (Obj.cells #[.int .i64 5, .string nd.name, .string nd.value, .int .i64 nd.kids] 36)).cell? ⟨w.heap.size, 0, none⟩ = some (.slice (some ⟨g, 0, none⟩) ns.length cn) by simp)
  have cA : ∀ d os, Calls Tryz.prog 30 #[.agg #[.slice (some ⟨g, 0, none⟩) ns.length cn], .slice (some ⟨go, 0, none⟩) n co, .int .i64 (a : Int), .slice am ms.length cm] (Sort.grow (redrawn ((w.alloc (Obj.cells #[.slice (some ⟨g, 0, none⟩) ns.length cn] 25)).alloc (Obj.cells #[.int .i64 5, .string nd.name, .string nd.value, .int .i64 nd.kids] 36)) d) os) fun e w'' => e = .returned (.bool (meetsS ms t)) ∧ ∃ p : Regrown, w'' = Sort.grow (redrawn ((w.alloc (Obj.cells #[.slice (some ⟨g, 0, none⟩) ns.length cn] 25)).alloc (Obj.cells #[.int .i64 5, .string nd.name, .string nd.value, .int .i64 nd.kids] 36)) p.d) p.os :=
    fun d os => Calls.regrown_of (ih _ ((hNN.out.grown HB0.out).grown (below_regrown _ d os)) ((hKK.out.grown HB0.out).grown (below_regrown _ d os)) ((hMM.out.below StrC.holds HB0.out (Nat.le_refl _)).below StrC.holds (below_regrown _ d os) (Nat.le_refl _)))
  have cB : ∀ d os, Calls Tryz.prog 30 #[.agg #[.slice (some ⟨g, 0, none⟩) ns.length cn], .slice (some ⟨go, 0, none⟩) n co, .int .i64 (b : Int), .slice am ms.length cm] (Sort.grow (redrawn ((w.alloc (Obj.cells #[.slice (some ⟨g, 0, none⟩) ns.length cn] 25)).alloc (Obj.cells #[.int .i64 5, .string nd.name, .string nd.value, .int .i64 nd.kids] 36)) d) os) fun e w'' => e = .returned (.bool (meetsS ms u)) ∧ ∃ p : Regrown, w'' = Sort.grow (redrawn ((w.alloc (Obj.cells #[.slice (some ⟨g, 0, none⟩) ns.length cn] 25)).alloc (Obj.cells #[.int .i64 5, .string nd.name, .string nd.value, .int .i64 nd.kids] 36)) p.d) p.os :=
    fun d os => Calls.regrown_of (ih' _ ((hNN.out.grown HB0.out).grown (below_regrown _ d os)) ((hKK.out.grown HB0.out).grown (below_regrown _ d os)) ((hMM.out.below StrC.holds HB0.out (Nat.le_refl _)).below StrC.holds (below_regrown _ d os) (Nat.le_refl _)))
  show Calls _ _ _ _ fun e w' => e = .returned (.bool (meetsS ms t || meetsS ms u)) ∧ _
  clear hN hK hnd hk hM hNN hKK hMM k0 k1 k2 hout ih ih'
  generalize meetsS ms t = X at *
  generalize meetsS ms u = Y at *
  generalize ((a : Nat) : Int) = ia at *
  generalize ((b : Nat) : Int) = ib at *
  go_enter Tryz.func30, Tryz.ntmps30
  go_wp2_with fail
  clear q0 q1 q2 q3
  generalize ((w.alloc (Obj.cells #[.slice (some ⟨g, 0, none⟩) ns.length cn] 25)).alloc (Obj.cells #[.int .i64 5, .string nd.name, .string nd.value, .int .i64 nd.kids] 36)) = W at *
  cases X
  all_goals
    refine wp_region_quiet_below (by kernel_rfl) (by kernel_rfl) ?_
    repeat (go_big_quiet_step (first | (go_at_call_has 30 ia; exact cA _ _) | (go_at_call_has 30 ib; exact cB _ _)))
    refine wpQuiet_nil ?_
    intro w5 hw'
    obtain ⟨⟨dq, osq⟩, hw''⟩ := hw'
    have hB := below_regrown W dq osq
    simp only [] at hw''
    rw [← hw''] at hB
    have HB5 : Hid (Below w.heap.size w w5) := HB0.out.trans (hB.mono HB0.out.size)
    clear hw'' hB
    go_wp2_with fail
    go_ret
    exact ⟨rfl, HB5.out⟩

theorem meet_any (ns : List P.Nd) (out : List (List Nat)) (n cn co go g : Nat) (ms : List ByteArray) (am : Option Addr) (cm : Nat) (hol : out.length = n) (t : P.Tr) (k : Nat) (h : P.IsT ns out k t) : MeetOk ns out n cn co go g ms am cm k t := by
  refine P.isT_ind (ns := ns) (out := out) (p := fun k t => MeetOk ns out n cn co go g ms am cm k t) ?_ ?_ ?_ ?_ ?_ ?_ t k h
  · intro k nd hnd hk _
    exact meetNon_any ns out n cn co go g ms am cm k nd hnd hk
  · intro k nd hnd hk _
    exact meetNm_any ns out n cn co go g ms am cm k nd hnd hk
  · intro k nd hnd hk _
    exact meetVl_any ns out n cn co go g ms am cm k nd hnd hk
  · intro k nd a t hnd hk hout _ _ ih
    exact meetNt_any ns out n cn co go g ms am cm k a t nd hol hnd hk hout ih
  · intro k nd a b t u hnd hk hout _ _ _ _ ih ih'
    exact meetAn_any ns out n cn co go g ms am cm k a b t u nd hol hnd hk hout ih ih'
  · intro k nd a b t u hnd hk hout _ _ _ _ ih ih'
    exact meetOr_any ns out n cn co go g ms am cm k a b t u nd hol hnd hk hout ih ih'

end Go.Proofs.YthjicahpfhjfdaaGreatDoor
