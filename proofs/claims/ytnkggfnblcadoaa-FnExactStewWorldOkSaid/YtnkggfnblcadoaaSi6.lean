/-
  Services, copies and berths of a book that are ok, by the program. Made by mksi6.py.
-/
import Derived.Test.YtnkggfnblcadoaaSi5
namespace Go.Proofs.Ytnkggfnblcadoaa
open Go.RowKit Go.WideMaps Go.Maps

theorem ascTo_all {ns : List ByteArray} : ∀ n, ascTo ns n = true → ∀ k, k < n → ascAt ns k = true
  | 0, _, k, hk => by omega
  | n + 1, h, k, hk => by
    simp only [ascTo, Bool.and_eq_true] at h
    by_cases e : k = n
    · subst e; exact h.2
    · exact ascTo_all n h.1 k (by omega)

theorem ascTo_yes {ns : List ByteArray} : ∀ n, (∀ k, k < n → ascAt ns k = true) → ascTo ns n = true
  | 0, _ => rfl
  | n + 1, h => by
    simp only [ascTo, Bool.and_eq_true]
    exact ⟨ascTo_yes n (fun k hk => h k (by omega)), h n (by omega)⟩

theorem asc_iff (ns : List ByteArray) : ascTo ns ns.length = true ↔ ∀ (j : Nat) u v, ns[j]? = some u → ns[j + 1]? = some v → Op.bytesLess u.toList v.toList = true := by
  constructor
  · intro h j u v hu hv
    have := ascTo_all _ h (j + 1) (lt_of_some hv)
    rwa [ascAt_at hu hv] at this
  · intro h
    refine ascTo_yes _ (fun k hk => ?_)
    cases k with
    | zero => rfl
    | succ k =>
      have h1 : ns[k]? = some ns[k] := List.getElem?_eq_getElem (by omega)
      have h2 : ns[k + 1]? = some ns[k + 1] := List.getElem?_eq_getElem hk
      rw [ascAt_at h1 h2]
      exact h k _ _ h1 h2

theorem ac_iff (xs : List Scp) : acTo xs xs.length = true ↔ ∀ (j : Nat) u v, xs[j]? = some u → xs[j + 1]? = some v → ahB u v = true := by
  constructor
  · intro h j u v hu hv
    have := acTo_all _ h (j + 1) (lt_of_some hv)
    rwa [acAt_at hu hv] at this
  · intro h
    refine acTo_yes _ (fun k hk => ?_)
    cases k with
    | zero => rfl
    | succ k =>
      have h1 : xs[k]? = some xs[k] := List.getElem?_eq_getElem (by omega)
      have h2 : xs[k + 1]? = some xs[k + 1] := List.getElem?_eq_getElem hk
      rw [acAt_at h1 h2]
      exact h k _ _ h1 h2

theorem all_at {α : Type} (xs : List α) (f : α → Bool) : xs.all f = true ↔ ∀ (j : Nat) y, xs[j]? = some y → f y = true := by
  rw [List.all_eq_true]
  constructor
  · exact fun h j y hy => h y (List.mem_of_getElem? hy)
  · intro h y hy
    obtain ⟨j, hj⟩ := List.getElem?_of_mem hy
    exact h j y hj

def svR (x : Sbk) (p : Nat) (y : Ssv) : List Chk := [(71, #[], snB y.name), (72, #[.pointer (some ⟨p, 0, none⟩)], inR y.version 1 x.now), (73, #[], nuB y), (74, #[], spB y), (75, #[], scB y)]
abbrev svV (p : Nat) : Array Value := #[.func (.func 71) #[] #[], .func (.func 72) #[.pointer (some ⟨p, 0, none⟩)] #[], .func (.func 73) #[] #[], .func (.func 74) #[] #[], .func (.func 75) #[] #[]]
theorem svR_all (x : Sbk) (p : Nat) (y : Ssv) : allR (svR x p y) = svB y x.now := by
  rw [svB_parts]
  simp [allR, svR, Bool.and_assoc]
theorem svR_enters (x : Sbk) (p : Nat) (y : Ssv) : Enters (svR x p y) := by
  intro k r hk
  have h := List.mem_of_getElem? hk
  simp only [svR, List.mem_cons, List.not_mem_nil, or_false] at h
  rcases h with rfl | rfl | rfl | rfl | rfl
  · exact enters_of Try.func71 (by kernel_rfl) rfl
  · exact enters_of Try.func72 (by kernel_rfl) rfl
  · exact enters_of Try.func73 (by kernel_rfl) rfl
  · exact enters_of Try.func74 (by kernel_rfl) rfl
  · exact enters_of Try.func75 (by kernel_rfl) rfl
theorem svR_in {g p : Nat} {w : World} {t : TypeId} (x : Sbk) (h : Blk g (svV p) t w) (y : Ssv) : ChkIn g (svR x p y) w := by
  intro k r hk
  have hk8 : k < 5 := (List.getElem?_eq_some_iff.1 hk).1
  have hc : k = 0 ∨ k = 1 ∨ k = 2 ∨ k = 3 ∨ k = 4 := by omega
  rcases hc with rfl | rfl | rfl | rfl | rfl
  · cases hk; exact h.cell rfl
  · cases hk; exact h.cell rfl
  · cases hk; exact h.cell rfl
  · cases hk; exact h.cell rfl
  · cases hk; exact h.cell rfl

def btR (_x : Sbk) (_p : Nat) (y : Sbt) : List Chk := [(79, #[], snB y.name)]
abbrev btV (_p : Nat) : Array Value := #[.func (.func 79) #[] #[]]
theorem btR_all (x : Sbk) (p : Nat) (y : Sbt) : allR (btR x p y) = snB y.name := by
  simp [allR, btR]
theorem btR_enters (x : Sbk) (p : Nat) (y : Sbt) : Enters (btR x p y) := by
  intro k r hk
  have h := List.mem_of_getElem? hk
  simp only [btR, List.mem_cons, List.not_mem_nil, or_false] at h
  subst h
  exact enters_of Try.func79 (by kernel_rfl) rfl
theorem btR_in {g p : Nat} {w : World} {t : TypeId} (x : Sbk) (h : Blk g (btV p) t w) (y : Sbt) : ChkIn g (btR x p y) w := by
  intro k r hk
  have hk8 : k < 1 := (List.getElem?_eq_some_iff.1 hk).1
  have hc : k = 0 := by omega
  subst hc
  cases hk
  exact h.cell rfl

def cpR (x : Sbk) (p : Nat) (y : Scp) : List Chk := [(82, #[.pointer (some ⟨p, 0, none⟩)], cvB x y), (83, #[.pointer (some ⟨p, 0, none⟩)], inR y.version 1 x.now), (84, #[], inR y.image 1 1000000), (85, #[], inR y.state 1 4), (86, #[.pointer (some ⟨p, 0, none⟩)], ctB x y)]
abbrev cpV (p : Nat) : Array Value := #[.func (.func 82) #[.pointer (some ⟨p, 0, none⟩)] #[], .func (.func 83) #[.pointer (some ⟨p, 0, none⟩)] #[], .func (.func 84) #[] #[], .func (.func 85) #[] #[], .func (.func 86) #[.pointer (some ⟨p, 0, none⟩)] #[]]
theorem cpR_all (x : Sbk) (p : Nat) (y : Scp) : allR (cpR x p y) = cpB x y := by
  rw [cpB_parts]
  simp [allR, cpR, Bool.and_assoc]
theorem cpR_enters (x : Sbk) (p : Nat) (y : Scp) : Enters (cpR x p y) := by
  intro k r hk
  have h := List.mem_of_getElem? hk
  simp only [cpR, List.mem_cons, List.not_mem_nil, or_false] at h
  rcases h with rfl | rfl | rfl | rfl | rfl
  · exact enters_of Try.func82 (by kernel_rfl) rfl
  · exact enters_of Try.func83 (by kernel_rfl) rfl
  · exact enters_of Try.func84 (by kernel_rfl) rfl
  · exact enters_of Try.func85 (by kernel_rfl) rfl
  · exact enters_of Try.func86 (by kernel_rfl) rfl
theorem cpR_in {g p : Nat} {w : World} {t : TypeId} (x : Sbk) (h : Blk g (cpV p) t w) (y : Scp) : ChkIn g (cpR x p y) w := by
  intro k r hk
  have hk8 : k < 5 := (List.getElem?_eq_some_iff.1 hk).1
  have hc : k = 0 ∨ k = 1 ∨ k = 2 ∨ k = 3 ∨ k = 4 := by omega
  rcases hc with rfl | rfl | rfl | rfl | rfl
  · cases hk; exact h.cell rfl
  · cases hk; exact h.cell rfl
  · cases hk; exact h.cell rfl
  · cases hk; exact h.cell rfl
  · cases hk; exact h.cell rfl

def svK (x : Sbk) (p : Nat) : Bool := ascTo (x.services.map (·.name)) x.services.length && x.services.all (fun y => allR (svR x p y))

set_option maxHeartbeats 4000000 in
set_option maxRecDepth 100000 in
theorem fservicesOk_any (x : Sbk) (a1 : Option Addr) (c1 : Nat) (a2 : Option Addr) (c2 : Nat) (a3 : Option Addr) (c3 : Nat) (p m n lo : Nat) (w : World) (hF : FndS x a1 c1 a2 c2 a3 c3 p m n lo w) (hl : x.services.length ≤ 1048576) :
    Calls Try.prog 64 #[.pointer (some ⟨p, 0, none⟩)] w fun e w' => e = .returned (.bool (svK x p)) ∧ Below w.heap.size w w' := by
  have HF := Hid.intro hF
  have ZZ : Hid (∀ (i : Nat) y, x.services[i]? = some y → y.name.size ≤ maxLen) := by
    intro i y hy
    obtain ⟨_, _, _, _, _, hc⟩ := hF.n1.at hy
    obtain ⟨_, _, _, _, _, _, _, _, _, _, _, _, _, z0⟩ := hc
    exact z0
  have k1 : w.cell? ⟨p, 1, none⟩ = some (.slice a1 x.services.length c1) := hF.blk.cell rfl
  clear hF
  go_enter Try.func64, Try.ntmps64
  go_wp2_with fail
  refine (ascSsv_any x.services a1 c1 lo _ HF.out.n1 hl).mono ?_
  rintro e w2 ⟨rfl, hb2⟩
  have HF2 := Hid.intro (HF.out.below hb2)
  cases ha : ascTo (x.services.map (·.name)) x.services.length with
  | false =>
    have HE : Hid (svK x p = false) := by show _ = _; unfold svK; rw [ha]; rfl
    clear ha
    go_wp2_with fail
    go_ret
    exact ⟨ret_bool HE.out.symm, hb2⟩
  | true =>
    have HE : Hid (svK x p = x.services.all (fun y => allR (svR x p y))) := by show _ = _; unfold svK; rw [ha]; rfl
    have HW : Hid (Blk w2.heap.size (svV p) 115 (w2.alloc (Obj.cells (svV p) 115))) := Blk.alloc _ _ _
    have hb3 : Below w2.heap.size w2 (w2.alloc (Obj.cells (svV p) 115)) := (Below.refl _ w2).alloc (Nat.le_refl _) _
    have HF3 := Hid.intro (HF2.out.below hb3)
    have k1 : w2.cell? ⟨p, 1, none⟩ = some (.slice a1 x.services.length c1) := HF2.out.blk.cell rfl
    have hB3 : Below w.heap.size w (w2.alloc (Obj.cells (svV p) 115)) := hb2.trans (hb3.mono hb2.size)
    clear ha HF
    go_wp2_with fail
    refine (eachSsv_any x.services (svR x p) 5 w2.heap.size c1 5 lo a1 (w2.alloc (Obj.cells (svV p) 115)) HF3.out.n1 hl (fun _ => rfl) (by decide) ?_ (svR_enters x p) (svR_in x HW.out) HW.out.lt).mono ?_
    · intro i y hy k r hk v hv
      have HF := HF3
      have h := List.mem_of_getElem? hk
      simp only [svR, List.mem_cons, List.not_mem_nil, or_false] at h
      rcases h with rfl | rfl | rfl | rfl | rfl
      · exact svNamed_any y _ (ZZ.out i y hy)
      · exact svChanged_any x a1 c1 a2 c2 a3 c3 p m n lo y _ (HF.out.below hv)
      · exact svNumbered_any y _
      · exact svSpared_any y _
      · exact svScaled_any y _
    · rintro e w4 ⟨rfl, hb4⟩
      have hB4 := hB3.trans (hb4.mono hB3.size)
      have HEE := HE
      generalize x.services.all (fun y => allR (svR x p y)) = Q at *
      go_wp2_with fail
      go_ret
      exact ⟨ret_bool HE.out.symm, hB4⟩

def btK (x : Sbk) (p : Nat) : Bool := ascTo (x.berths.map (·.name)) x.berths.length && x.berths.all (fun y => allR (btR x p y))

set_option maxHeartbeats 4000000 in
set_option maxRecDepth 100000 in
theorem fberthsOk_any (x : Sbk) (a1 : Option Addr) (c1 : Nat) (a2 : Option Addr) (c2 : Nat) (a3 : Option Addr) (c3 : Nat) (p m n lo : Nat) (w : World) (hF : FndS x a1 c1 a2 c2 a3 c3 p m n lo w) (hl : x.berths.length ≤ 1048576) :
    Calls Try.prog 65 #[.pointer (some ⟨p, 0, none⟩)] w fun e w' => e = .returned (.bool (btK x p)) ∧ Below w.heap.size w w' := by
  have HF := Hid.intro hF
  have ZZ : Hid (∀ (i : Nat) y, x.berths[i]? = some y → y.name.size ≤ maxLen) := by
    intro i y hy
    obtain ⟨_, _, _, _, _, hc⟩ := hF.n3.at hy
    obtain ⟨_, _, z0⟩ := hc
    exact z0
  have k1 : w.cell? ⟨p, 3, none⟩ = some (.slice a3 x.berths.length c3) := hF.blk.cell rfl
  clear hF
  go_enter Try.func65, Try.ntmps65
  go_wp2_with fail
  refine (ascSbt_any x.berths a3 c3 lo _ HF.out.n3 hl).mono ?_
  rintro e w2 ⟨rfl, hb2⟩
  have HF2 := Hid.intro (HF.out.below hb2)
  cases ha : ascTo (x.berths.map (·.name)) x.berths.length with
  | false =>
    have HE : Hid (btK x p = false) := by show _ = _; unfold btK; rw [ha]; rfl
    clear ha
    go_wp2_with fail
    go_ret
    exact ⟨ret_bool HE.out.symm, hb2⟩
  | true =>
    have HE : Hid (btK x p = x.berths.all (fun y => allR (btR x p y))) := by show _ = _; unfold btK; rw [ha]; rfl
    have HW : Hid (Blk w2.heap.size (btV p) 120 (w2.alloc (Obj.cells (btV p) 120))) := Blk.alloc _ _ _
    have hb3 : Below w2.heap.size w2 (w2.alloc (Obj.cells (btV p) 120)) := (Below.refl _ w2).alloc (Nat.le_refl _) _
    have HF3 := Hid.intro (HF2.out.below hb3)
    have k1 : w2.cell? ⟨p, 3, none⟩ = some (.slice a3 x.berths.length c3) := HF2.out.blk.cell rfl
    have hB3 : Below w.heap.size w (w2.alloc (Obj.cells (btV p) 120)) := hb2.trans (hb3.mono hb2.size)
    clear ha HF
    go_wp2_with fail
    refine (eachSbt_any x.berths (btR x p) 1 w2.heap.size c3 1 lo a3 (w2.alloc (Obj.cells (btV p) 120)) HF3.out.n3 hl (fun _ => rfl) (by decide) ?_ (btR_enters x p) (btR_in x HW.out) HW.out.lt).mono ?_
    · intro i y hy k r hk v hv
      have HF := HF3
      have h := List.mem_of_getElem? hk
      simp only [btR, List.mem_cons, List.not_mem_nil, or_false] at h
      subst h
      exact btNamed_any y _ (ZZ.out i y hy)
    · rintro e w4 ⟨rfl, hb4⟩
      have hB4 := hB3.trans (hb4.mono hB3.size)
      have HEE := HE
      generalize x.berths.all (fun y => allR (btR x p y)) = Q at *
      go_wp2_with fail
      go_ret
      exact ⟨ret_bool HE.out.symm, hB4⟩

def cpK (x : Sbk) (p : Nat) : Bool := acTo x.copies x.copies.length && x.copies.all (fun y => allR (cpR x p y))

set_option maxHeartbeats 4000000 in
set_option maxRecDepth 100000 in
theorem fcopiesOk_any (x : Sbk) (a1 : Option Addr) (c1 : Nat) (a2 : Option Addr) (c2 : Nat) (a3 : Option Addr) (c3 : Nat) (p m n lo : Nat) (w : World) (hF : FndS x a1 c1 a2 c2 a3 c3 p m n lo w) (hl : x.copies.length ≤ 1048576) (hu : (∀ (j k : Nat) u v, x.services[j]? = some u → x.services[k]? = some v → u.name = v.name → j = k)) (hx : ∀ v ∈ x.services, 1 ≤ v.next ∧ v.next ≤ 1000000) :
    Calls Try.prog 66 #[.pointer (some ⟨p, 0, none⟩)] w fun e w' => e = .returned (.bool (cpK x p)) ∧ Below w.heap.size w w' := by
  have HF := Hid.intro hF
  have ZZ : Hid (∀ (i : Nat) y, x.copies[i]? = some y → y.service.size ≤ maxLen ∧ y.berth.size ≤ maxLen) := by
    intro i y hy
    obtain ⟨_, _, _, _, _, hc⟩ := hF.n2.at hy
    obtain ⟨_, _, _, _, _, _, _, z0, z1⟩ := hc
    exact ⟨z0, z1⟩
  have k1 : w.cell? ⟨p, 2, none⟩ = some (.slice a2 x.copies.length c2) := hF.blk.cell rfl
  clear hF
  go_enter Try.func66, Try.ntmps66
  go_wp2_with fail
  refine (ascC_any x.copies a2 c2 lo _ HF.out.n2 hl).mono ?_
  rintro e w2 ⟨rfl, hb2⟩
  have HF2 := Hid.intro (HF.out.below hb2)
  cases ha : acTo x.copies x.copies.length with
  | false =>
    have HE : Hid (cpK x p = false) := by show _ = _; unfold cpK; rw [ha]; rfl
    clear ha
    go_wp2_with fail
    go_ret
    exact ⟨ret_bool HE.out.symm, hb2⟩
  | true =>
    have HE : Hid (cpK x p = x.copies.all (fun y => allR (cpR x p y))) := by show _ = _; unfold cpK; rw [ha]; rfl
    have HW : Hid (Blk w2.heap.size (cpV p) 124 (w2.alloc (Obj.cells (cpV p) 124))) := Blk.alloc _ _ _
    have hb3 : Below w2.heap.size w2 (w2.alloc (Obj.cells (cpV p) 124)) := (Below.refl _ w2).alloc (Nat.le_refl _) _
    have HF3 := Hid.intro (HF2.out.below hb3)
    have k1 : w2.cell? ⟨p, 2, none⟩ = some (.slice a2 x.copies.length c2) := HF2.out.blk.cell rfl
    have hB3 : Below w.heap.size w (w2.alloc (Obj.cells (cpV p) 124)) := hb2.trans (hb3.mono hb2.size)
    clear ha HF
    go_wp2_with fail
    refine (eachScp_any x.copies (cpR x p) 5 w2.heap.size c2 5 lo a2 (w2.alloc (Obj.cells (cpV p) 124)) HF3.out.n2 hl (fun _ => rfl) (by decide) ?_ (cpR_enters x p) (cpR_in x HW.out) HW.out.lt).mono ?_
    · intro i y hy k r hk v hv
      have HF := HF3
      have h := List.mem_of_getElem? hk
      simp only [cpR, List.mem_cons, List.not_mem_nil, or_false] at h
      rcases h with rfl | rfl | rfl | rfl | rfl
      · exact cpServed_any x a1 c1 a2 c2 a3 c3 p m n lo y _ (HF.out.below hv) (ZZ.out i y hy).1 hu hx
      · exact cpChanged_any x a1 c1 a2 c2 a3 c3 p m n lo y _ (HF.out.below hv)
      · exact cpImaged_any y _
      · exact cpStated_any y _
      · exact cpBerthed_any x a1 c1 a2 c2 a3 c3 p m n lo y _ (HF.out.below hv) (ZZ.out i y hy).2
    · rintro e w4 ⟨rfl, hb4⟩
      have hB4 := hB3.trans (hb4.mono hB3.size)
      have HEE := HE
      generalize x.copies.all (fun y => allR (cpR x p y)) = Q at *
      go_wp2_with fail
      go_ret
      exact ⟨ret_bool HE.out.symm, hB4⟩

end Go.Proofs.Ytnkggfnblcadoaa
