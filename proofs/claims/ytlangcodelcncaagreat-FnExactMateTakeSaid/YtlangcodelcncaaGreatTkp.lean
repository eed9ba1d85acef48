import Derived.Test.YtlangcodelcncaaGreatInoR
import Derived.Test.YtlangcodelcncaaGreatRis
import Derived.Test.YtlangcodelcncaaGreatPcl
namespace Go.Proofs.YtlangcodelcncaaGreat
open Go.RowKit Go.WideMaps Go.Maps Go.Sort

def updR (p : Pcl) (r : Rn) : Rn := if r.want.hold = p.hold ∧ r.want.copy = p.copy ∧ r.until_ < p.at_ + 16 then { r with until_ := p.at_ + 16 } else r
def newerB (x : Mte) (p : Pcl) : Bool := (!x.known || decide (x.seen < p.seen)) && (inR p.seen 1 1000000 && wsB p.wants)
def okAsk (x : Mte) (p : Pcl) : Bool := match x.asks.find? (fun a => decide (a.hold = p.hold)) with
  | some a => decide (a.copy = p.copy) && inR p.at_ a.first a.at_
  | none => false
def okGive (x : Mte) (p : Pcl) : Bool := match x.gives.find? (fun a => decide (a.hold = p.hold)) with
  | some g => g.at_ == p.at_
  | none => false
def hearM (x : Mte) (p : Pcl) : Mte := if newerB x p = true then { x with known := true, seen := p.seen, wants := p.wants } else x
def leaseM (x : Mte) (p : Pcl) : Mte := if okAsk x p = true then { x with runs := x.runs.map (updR p) } else x
def forgetM (x : Mte) (p : Pcl) : Mte := if okGive x p = true then { x with gives := x.gives.filter (fun g => !decide (g.hold = p.hold)) } else x
def takeP (x : Mte) (p : Pcl) : Mte := if p.kind = 1 then hearM x p else if p.kind = 3 then leaseM x p else if p.kind = 5 then forgetM x p else x
def takeM (x : Mte) (p : Pcl) : Mte := if mvB x = true then (if (x.up && decide (p.berth = x.name)) = true then takeP x p else x) else noMte

theorem updR_copy (p : Pcl) (r : Rn) : (updR p r).want = r.want := by unfold updR; split <;> rfl

theorem find_uniq {α : Type} {f : α → ByteArray} : ∀ {xs : List α} {x : α}, (xs.map f).Nodup → x ∈ xs → xs.find? (fun a => decide (f a = f x)) = some x
  | [], _, _, h => by cases h
  | y :: r, x, hn, h => by
    rw [List.map_cons, List.nodup_cons] at hn
    rcases List.mem_cons.1 h with rfl | h
    · simp
    · have hne : ¬ f y = f x := fun e => hn.1 (e ▸ List.mem_map_of_mem h)
      rw [List.find?_cons, decide_eq_false hne]
      exact find_uniq hn.2 h

theorem nodup_of {ns : List ByteArray} (h : ascTo ns ns.length = true) : ns.Nodup := by
  have := nmL_nodup h
  unfold nmL at this
  exact (List.pairwise_map.1 this).imp (fun h e => h (by rw [e]))

theorem nodup_rev {l : List ByteArray} (h : l.Nodup) : l.reverse.Nodup := List.pairwise_reverse.2 (h.imp (fun h e => h e.symm))

theorem tabA_of {xs : List Aks} (h : ascTo (xs.map (·.hold)) xs.length = true) : TabA (asM xs.reverse) xs := by
  have hn : (xs.map (·.hold)).Nodup := nodup_of (by rw [List.length_map]; exact h)
  refine ⟨fun s => by rw [has_asM, any_rev], fun x hx => ?_⟩
  rw [at_asM, find_uniq (f := (·.hold)) (by rw [List.map_reverse]; exact nodup_rev hn) (List.mem_reverse.2 hx)]

theorem tabR_of {xs : List Rn} (h : ascTo (xs.map (·.want.copy)) xs.length = true) : TabR (tmRn xs.reverse) xs := by
  have hn : (xs.map (·.want.copy)).Nodup := nodup_of (by rw [List.length_map]; exact h)
  refine ⟨fun s => by rw [has_tmRn, any_rev], fun x hx => ?_⟩
  rw [at_tmRn, find_uniq (f := (·.want.copy)) (by rw [List.map_reverse]; exact nodup_rev hn) (List.mem_reverse.2 hx)]

theorem TabA.del {D : DataW Unit} {xs : List Aks} (h : TabA D xs) (s : ByteArray) : TabA (D.del (kOf s)) (xs.filter (fun g => !decide (g.hold = s))) := by
  refine ⟨fun t => ?_, fun x hx => ?_⟩
  · by_cases e : t = s
    · subst e
      rw [has_del_same]
      symm
      rw [List.any_eq_false]
      intro a ha
      have := (List.mem_filter.1 ha).2
      simpa using this
    · rw [has_del_other (fun h => e (kOf_inj h)), h.has_ t]
      rw [Bool.eq_iff_iff, List.any_eq_true, List.any_eq_true]
      constructor
      · rintro ⟨a, ha, e2⟩
        exact ⟨a, List.mem_filter.2 ⟨ha, by have := of_decide_eq_true e2; simp [this, e]⟩, e2⟩
      · rintro ⟨a, ha, e2⟩
        exact ⟨a, (List.mem_filter.1 ha).1, e2⟩
  · obtain ⟨h1, h2⟩ := List.mem_filter.1 hx
    have hne : ¬ x.hold = s := by simpa using h2
    rw [atKey_del_other (fun h => hne (kOf_inj h))]
    exact h.at_ x h1

theorem TabR.put {D : DataW Unit} {xs : List Rn} (h : TabR D xs) (hm : IsMap D) {c : ByteArray} {r : Rn} (hr : r.want.copy = c) (hc : xs.any (fun a => decide (a.want.copy = c)) = true) (f : Rn → Rn) (hf : ∀ z, (f z).want = z.want) (hs : ∀ z ∈ xs, z.want.copy = c → f z = r) (ho : ∀ z ∈ xs, z.want.copy ≠ c → f z = z) : TabR (D.put (kOf c) (dtRn r)) (xs.map f) := by
  have ha : ∀ s, (xs.map f).any (fun a => decide (a.want.copy = s)) = xs.any (fun a => decide (a.want.copy = s)) := by
    intro s
    rw [List.any_map]
    congr 1
    funext z
    simp only [Function.comp, hf]
  refine ⟨fun s => ?_, fun x hx => ?_⟩
  · rw [ha]
    by_cases e : s = c
    · subst e
      rw [hc]
      exact has_put_same hm (show WideAt.IsKeyLit (kOf _) from trivial) _
    · rw [has_put_other (fun h => e (kOf_inj h)), h.has_ s]
  · obtain ⟨z, hz, rfl⟩ := List.mem_map.1 hx
    rw [hf]
    by_cases e : z.want.copy = c
    · rw [hs z hz e, e]
      exact atKey_put_same hm (show WideAt.IsKeyLit (kOf _) from trivial) _ _
    · rw [atKey_put_other (fun h => e (kOf_inj h)), ho z hz e]
      exact h.at_ z hz

theorem asc_of_pair {ns : List ByteArray} (h : (nmL ns).Pairwise (· < ·)) : ascTo ns ns.length = true := by
  suffices hh : ∀ n, n ≤ ns.length → ascTo ns n = true from hh _ (Nat.le_refl _)
  intro n
  induction n with
  | zero => intro _; rfl
  | succ k ih =>
    intro hk
    rw [ascTo, ih (by omega), Bool.true_and]
    cases k with
    | zero => rfl
    | succ m =>
      have e1 : ns[m]? = some (ns[m]'(by omega)) := List.getElem?_eq_getElem (by omega)
      have e2 : ns[m + 1]? = some (ns[m + 1]'(by omega)) := List.getElem?_eq_getElem (by omega)
      rw [ascAt_at e1 e2]
      rw [List.pairwise_iff_getElem] at h
      have := h m (m + 1) (by unfold nmL; simp; omega) (by unfold nmL; simp; omega) (by omega)
      unfold nmL at this
      simp at this
      rw [bytesLess_eq]
      exact decide_eq_true this

theorem asc_filter {xs : List Aks} (P : Aks → Bool) (h : ascTo (xs.map (·.hold)) xs.length = true) : ascTo ((xs.filter P).map (·.hold)) (xs.filter P).length = true := by
  rw [show (xs.filter P).length = ((xs.filter P).map (·.hold)).length by simp]
  apply asc_of_pair
  have h2 := nmL_lt (ns := xs.map (·.hold)) (by rw [List.length_map]; exact h)
  unfold nmL at h2 ⊢
  rw [List.map_map] at h2 ⊢
  exact List.Pairwise.sublist (List.Sublist.map _ List.filter_sublist) h2

theorem map_copy (p : Pcl) (xs : List Rn) : (xs.map (updR p)).map (·.want.copy) = xs.map (·.want.copy) := by
  rw [List.map_map]
  congr 1
  funext r
  simp only [Function.comp, updR_copy]

end Go.Proofs.YtlangcodelcncaaGreat
