import Derived.Test.YtnggdpjfmpjlhaaGreatLvB
import Derived.Test.YtnggdpjfmpjlhaaGreatLvC
import Derived.Test.YtnggdpjfmpjlhaaGreatSk9
namespace Go.Proofs.YtnggdpjfmpjlhaaGreat
open Go.RowKit

theorem range_cAt (x : Sbk) : (List.range x.copies.length).map (cAt x) = x.copies := by
 apply List.ext_getElem?
 intro i
 rw [List.getElem?_map]
 by_cases h : i < x.copies.length
 ·rw [List.getElem?_range h, List.getElem?_eq_getElem h]
  exact congrArg some (cAt_at (List.getElem?_eq_getElem h))
 ·rw [List.getElem?_eq_none (by simpa using h), List.getElem?_eq_none (by omega)]
  rfl

theorem fil_map (x : Sbk) (p : Scp → Bool) (l : List Nat) : (l.filter (fun i => p (cAt x i))).map (cAt x) = (l.map (cAt x)).filter p := by
 rw [List.filter_map]
 rfl

theorem live_map (x : Sbk) (s : ByteArray) : (liveL x s).map (cAt x) = x.copies.filter (lvB s) := by
 unfold liveL plTo
 rw [fil_map, range_cAt]

theorem lvF_eq (x : Sbk) (s : ByteArray) (f : Scp → Bool) : lvF x s f = (x.copies.filter (lvB s)).filter f := by
 unfold lvF
 rw [List.filter_filter, List.filter_filter]
 congr 1
 funext c
 unfold lvB
 cases decide (c.service = s) <;> cases c.ending <;> cases f c <;> rfl

theorem live_all_eq (x : Sbk) (s : ByteArray) : (liveL x s).map (cAt x) = lvF x s (fun _ => true) := by
 rw [lvF_eq, live_map]
 exact (List.filter_eq_self.2 (fun _ _ => rfl)).symm

theorem some_map (x : Sbk) (v : Ssv) (k : Int) : (someL x v k).map (cAt x) = lvF x v.name (someB x v k) := by
 unfold someL
 rw [fil_map, live_map, lvF_eq]

theorem some2 (x : Sbk) (v : Ssv) : someB x v 2 = fun c => c.image != v.image := by funext c; unfold someB; rw [if_pos rfl]
theorem some6 (x : Sbk) (v : Ssv) : someB x v 6 = fun c => dnB x c.berth := by funext c; unfold someB; rw [if_neg (by decide), if_pos rfl]; rfl
theorem some3 (x : Sbk) (v : Ssv) : someB x v 3 = fun c => c.state == 4 := by funext c; unfold someB; rw [if_neg (by decide), if_neg (by decide)]

theorem ends_map (x : Sbk) (l : List Nat) : endsL x l = (l.map (cAt x)).map enC := by
 unfold endsL
 rw [List.map_map]
 rfl

theorem best_map (x : Sbk) (im : Int) (l : List Nat) : bestF x im l = bestC x im (l.map (cAt x)) := by
 cases l with
 | nil => rfl
 | cons i r =>
  show r.foldl _ _ = List.foldl _ _ (r.map (cAt x))
  rw [List.foldl_map]

def fstC (x : Sbk) (im : Int) (l : List Scp) : List Sen := if l.isEmpty = true then [] else [enC (bestC x im l)]
theorem first_map (x : Sbk) (im : Int) (l : List Nat) : firstL x im l = fstC x im (l.map (cAt x)) := by
 cases l with
 | nil => rfl
 | cons i r =>
  show [enC (bestF x im (i :: r))] = [enC (bestC x im ((i :: r).map (cAt x)))]
  rw [best_map]

theorem cq_live (im : Int) : ∀ (l : List Scp) (t : Sct), (l.foldl (stq im) t).live = t.live + ((l.filter (fun c => !c.ending)).length : Int) ∧ (l.foldl (stq im) t).ending = t.ending + ((l.filter (fun c => c.ending)).length : Int) ∧ (l.foldl (stq im) t).old = t.old + ((l.filter (fun c => !c.ending && (c.image != im))).length : Int)
 | [], t => by simp
 | c :: l, t => by
  rw [List.foldl_cons]
  obtain ⟨h1, h2, h3⟩ := cq_live im l (stq im t c)
  rw [h1, h2, h3]
  unfold stq
  cases he : c.ending with
  | true => simp [he]; omega
  | false =>
   by_cases hi : c.image = im
   ·simp [he, hi]; omega
   ·simp [he, hi]; omega

theorem cnt_live (x : Sbk) (v : Ssv) : (cntL x.copies v.name v.image).live = ((liveL x v.name).length : Int) ∧ (cntL x.copies v.name v.image).old = ((someL x v 2).length : Int) ∧ (cntL x.copies v.name v.image).ending = ((x.copies.filter (fun c => decide (c.service = v.name) && c.ending)).length : Int) := by
 obtain ⟨h1, h2, h3⟩ := cq_live v.image (x.copies.filter (fun c => decide (c.service = v.name))) ⟨0, 0, 0, 0, 0⟩
 rw [cnt_filter]
 unfold cqL
 refine ⟨?_, ?_, ?_⟩
 ·rw [h1, ← List.length_map (f := cAt x), live_all_eq]
  unfold lvF
  simp
 ·rw [h3, ← List.length_map (f := cAt x), some_map, some2]
  unfold lvF
  simp
 ·rw [h2, List.filter_filter]
  simp [Bool.and_comm]

theorem lvN_eq (x : Sbk) (v : Ssv) : lvN x v = (someL x v 6).length := by
 unfold lvN
 rw [← List.length_map (f := cAt x), some_map, some6]

theorem find_svc {x : Sbk} (hv : SVal x) {v : Ssv} (hm : v ∈ x.services) : x.services.find? (fun b => decide (b.name = v.name)) = some v := by
 obtain ⟨j, hj⟩ := List.getElem?_of_mem hm
 have hu := asc_uniq hv.s2
 rw [List.find?_eq_some_iff_getElem]
 have hl := lt_of_some hj
 refine ⟨decide_eq_true rfl, j, hl, ?_, fun i hi => ?_⟩
 ·have h9 := List.getElem?_eq_getElem hl
  rw [hj] at h9
  exact (Option.some.inj h9).symm
 ·have hil : i < x.services.length := by omega
  have : ¬ x.services[i].name = v.name := fun e => by
   have := hu i j _ _ (List.getElem?_eq_getElem hil) hj e
   omega
  simpa using this

theorem find_cpy {x : Sbk} (hv : SVal x) {c : Scp} (hm : c ∈ x.copies) : x.copies.find? (isC c.service c.number) = some c := by
 obtain ⟨j, hj⟩ := List.getElem?_of_mem hm
 have hu := asc_uniqC hv.c2
 rw [List.find?_eq_some_iff_getElem]
 have hl := lt_of_some hj
 refine ⟨by simp [isC], j, hl, ?_, fun i hi => ?_⟩
 ·have h9 := List.getElem?_eq_getElem hl
  rw [hj] at h9
  exact (Option.some.inj h9).symm
 ·have hil : i < x.copies.length := by omega
  have : ¬ (x.copies[i].service = c.service ∧ x.copies[i].number = c.number) := fun e => by
   have := hu i j _ _ (List.getElem?_eq_getElem hil) hj (by rw [e.1, e.2])
   omega
  cases h : isC c.service c.number x.copies[i] with
  | false => rfl
  | true => exact absurd (by simpa [isC] using h) this

theorem may_let {x : Sbk} (hv : SVal x) {v : Ssv} (hm : v ∈ x.services) {c : Scp} (hc : c ∈ x.copies.filter (lvB v.name)) : mayB x c.service c.number = letB x v c := by
 obtain ⟨h1, h2⟩ := List.mem_filter.1 hc
 unfold lvB at h2
 simp only [Bool.and_eq_true, decide_eq_true_eq, Bool.not_eq_true'] at h2
 rw [may_eq (find_cpy hv h1) (by rw [h2.1]; exact find_svc hv hm)]
 unfold mayC letB
 rw [h2.2]
 rfl

theorem state_ahead {x : Sbk} {im : Int} {c b : Scp} (hc : (c.state != 3) = true) (hb : (b.state != 3) = false) : soonB x c b im = true := by
 unfold soonB
 rw [hc, hb]
 rfl
theorem state_behind {x : Sbk} {im : Int} {c b : Scp} (hc : (c.state != 3) = false) (hb : (b.state != 3) = true) : soonB x c b im = false := by
 unfold soonB
 rw [hc, hb]
 rfl

theorem best_fold (x : Sbk) (im : Int) : ∀ (r : List Scp) (b : Scp), (b.state != 3) = true → r.foldl (fun b d => if soonB x d b im = true then d else b) b = (r.filter (fun c => c.state != 3)).foldl (fun b d => if soonB x d b im = true then d else b) b
 | [], _, _ => rfl
 | c :: r, b, hb => by
  cases hc : (c.state != 3) with
  | false =>
   rw [List.filter_cons_of_neg (by rw [hc]; exact Bool.false_ne_true), List.foldl_cons, state_behind hc hb, if_neg Bool.false_ne_true]
   exact best_fold x im r b hb
  | true =>
   rw [List.filter_cons_of_pos (p := fun c : Scp => c.state != 3) hc, List.foldl_cons, List.foldl_cons]
   exact best_fold x im r _ (by split <;> assumption)

theorem best_late (x : Sbk) (im : Int) : ∀ (r : List Scp) (b : Scp), (b.state != 3) = false → r.filter (fun c => c.state != 3) ≠ [] → r.foldl (fun b d => if soonB x d b im = true then d else b) b = bestC x im (r.filter (fun c => c.state != 3))
 | [], _, _, h => absurd rfl h
 | c :: r, b, hb, h => by
  cases hc : (c.state != 3) with
  | false =>
   rw [List.filter_cons_of_neg (by rw [hc]; exact Bool.false_ne_true)] at h ⊢
   rw [List.foldl_cons]
   exact best_late x im r _ (by split <;> assumption) h
  | true =>
   rw [List.filter_cons_of_pos (p := fun c : Scp => c.state != 3) hc, List.foldl_cons, state_ahead hc hb, if_pos rfl]
   exact best_fold x im r c hc

theorem best_filter (x : Sbk) (im : Int) (l : List Scp) (h : l.filter (fun c => c.state != 3) ≠ []) : bestC x im l = bestC x im (l.filter (fun c => c.state != 3)) := by
 cases l with
 | nil => exact absurd rfl h
 | cons c r =>
  cases hc : (c.state != 3) with
  | false =>
   rw [List.filter_cons_of_neg (by rw [hc]; exact Bool.false_ne_true)] at h ⊢
   exact best_late x im r c hc h
  | true =>
   rw [List.filter_cons_of_pos (p := fun c : Scp => c.state != 3) hc]
   exact best_fold x im r c hc

theorem first_may (x : Sbk) (v : Ssv) (hg : v.gone = false) (l : List Scp) : firC x v l = fstC x v.image (l.filter (letB x v)) := by
 unfold firC fstC
 by_cases hd : v.want - v.down ≤ (cntL x.copies v.name v.image).ready - 1
 ·have hl : ∀ c, letB x v c = true := fun c => by unfold letB krB; rw [decide_eq_true hd]; simp
  have hf : l.filter (letB x v) = l := List.filter_eq_self.2 (fun c _ => hl c)
  rw [hf, hl]
  cases l <;> rfl
 ·have hl : letB x v = fun c => c.state != 3 := by
   funext c
   unfold letB krB
   rw [decide_eq_false hd, hg]
   simp [bne]
  rw [hl]
  by_cases hf : l.filter (fun c => c.state != 3) = []
  ·rw [hf]
   cases hl2 : l with
   | nil => rfl
   | cons c r =>
    have hm : bestC x v.image l ∈ l := bestC_mem x v.image l (by rw [hl2]; simp)
    have h9 := (List.filter_eq_nil_iff.1 hf) _ hm
    rw [hl2] at h9
    have h8 : ((bestC x v.image (c :: r)).state != 3) = false := by simpa using h9
    rw [if_neg (by show ¬ (!(c :: r).isEmpty && ((bestC x v.image (c :: r)).state != 3)) = true; rw [h8]; simp)]
    rfl
  ·have hb := best_filter x v.image l hf
   have hm := bestC_mem x v.image _ hf
   have h9 := (List.mem_filter.1 hm).2
   have hne : l.isEmpty = false := by cases l with | nil => exact absurd rfl hf | cons => rfl
   have hne2 : (l.filter (fun c => c.state != 3)).isEmpty = false := by
    cases hq : l.filter (fun c => c.state != 3) with
    | nil => exact absurd hq hf
    | cons => rfl
   rw [hb, hne, hne2, if_pos (by simpa using h9), if_neg Bool.false_ne_true]

def setA (a : Sac) (v : Ssv) : Sac := ⟨v.name, v.version, a.create, a.want, a.cool, a.scale, a.ends, a.drop⟩

theorem due_eq {v : Ssv} (h : v.least ≤ v.most) : dueI v = desI v := by
 unfold dueI dueM dueQ desI
 simp only
 split <;> split <;> (try split) <;> (try split) <;> omega

theorem sld_le {v : Ssv} {now : Int} (h : svB v now = true) (hp : 0 < v.per) : v.least ≤ v.most := by
 unfold svB sldB at h
 rw [if_neg (show ¬ v.per = 0 by omega)] at h
 simp [inR] at h
 omega

theorem re_eq {x : Sbk} (hv : SVal x) {v : Ssv} (hm : v ∈ x.services) (hg : v.gone = false) (k : Int) (hl : (someL x v k).length ≠ 0) : reA x v (someL x v k) = setA (rpP x v (cntL x.copies v.name v.image) (someB x v k)) v := by
 unfold reA rpP
 rw [(cnt_live x v).1]
 by_cases h1 : ((liveL x v.name).length : Int) < v.want
 ·rw [if_pos (.inr h1), if_pos h1]; rfl
 ·rw [if_neg (fun h => by rcases h with h | h; exact hl h; exact h1 h), if_neg h1]
  by_cases h2 : ((liveL x v.name).length : Int) < v.want + v.over
  ·rw [if_pos h2, if_pos h2]; rfl
  ·rw [if_neg h2, if_neg h2]
   have h3 : ((someL x v k).filter (fun i => mayB x (cAt x i).service (cAt x i).number)).map (cAt x) = (lvF x v.name (someB x v k)).filter (letB x v) := by
    rw [fil_map x (fun c => mayB x c.service c.number), some_map]
    refine List.filter_congr (fun c hc => ?_)
    rw [lvF_eq] at hc
    exact may_let hv hm (List.mem_filter.1 hc).1
   show _ = setA (eA _) v
   rw [first_map, h3, first_may x v hg]
   rfl

theorem re_none (x : Sbk) (v : Ssv) (l : List Nat) (hl : l.length = 0) : reA x v l = setA nA v := by
 unfold reA
 rw [if_pos (.inl hl)]
 rfl

theorem sc_eq {v : Ssv} (hN : SvNum v) (hle : v.least ≤ v.most) (hg : v.gone = false) (hp : 0 < v.per) : scA v = setA (flP v) v := by
 have hc := hN.cool
 unfold scA flP
 rw [if_neg (c := v.gone = true ∨ v.per = 0) (fun h => by rcases h with h | h; (rw [hg] at h; cases h); omega), due_eq hle]
 by_cases c1 : v.want < v.least
 ·rw [if_pos c1, if_pos c1]; rfl
 rw [if_neg c1, if_neg c1]
 by_cases c2 : v.most < v.want
 ·rw [if_pos c2, if_pos c2]; rfl
 rw [if_neg c2, if_neg c2]
 by_cases c3 : v.want < desI v
 ·rw [if_pos c3, if_pos c3]; rfl
 rw [if_neg c3, if_neg c3]
 by_cases c4 : desI v < v.want
 ·rw [if_pos c4]
  by_cases c5 : v.cool = 3
  ·rw [if_pos (show 3 ≤ v.cool by omega), if_pos ⟨c4, c5⟩]; rfl
  ·rw [if_neg (show ¬ 3 ≤ v.cool by omega), if_neg (fun h => c5 h.2), if_pos c4]; rfl
 ·rw [if_neg c4, if_neg (c := desI v < v.want ∧ v.cool = 3) (fun h => c4 h.1), if_neg c4]
  by_cases c6 : v.cool = 0
  ·rw [if_pos c6, if_neg (fun h => h c6)]; rfl
  ·rw [if_neg c6, if_pos c6]; rfl

theorem lvB_service {s : ByteArray} {c : Scp} (h : lvB s c = true) : c.service = s := by
 unfold lvB at h
 simp only [Bool.and_eq_true, decide_eq_true_eq] at h
 exact h.1

theorem cu_eq {x : Sbk} (hv : SVal x) {v : Ssv} (hm : v ∈ x.services) (hg : v.gone = false) : cuA x v = setA (kcP x v (cntL x.copies v.name v.image) (lvN x v : Nat)) v := by
 have hov : 0 ≤ v.over := by
  obtain ⟨j, hj⟩ := List.getElem?_of_mem hm
  exact (svNum (hv.s1 j v hj)).over.1
 unfold cuA kcP
 rw [(cnt_live x v).1, (cnt_live x v).2.1, lvN_eq]
 have hcalm : calmB x v = true ↔ ¬ (0 < ((someL x v 2).length : Int) ∨ 0 < ((someL x v 6).length : Int)) := by
  unfold calmB
  simp only [Bool.and_eq_true, beq_iff_eq]
  omega
 by_cases c1 : ((liveL x v.name).length : Int) < v.want
 ·rw [if_pos c1, if_neg (fun h => by rcases h with h | h; (rw [hg] at h; cases h); omega), if_pos c1]; rfl
 rw [if_neg c1]
 by_cases c2 : ((liveL x v.name).length : Int) = v.want
 ·rw [if_neg (fun h => by omega), if_pos (.inr c2)]; rfl
 rw [if_neg (c := v.gone = true ∨ _) (fun h => by rcases h with h | h; (rw [hg] at h; cases h); exact c2 h), if_neg c1]
 by_cases c3 : (0 < ((someL x v 2).length : Int) ∨ 0 < ((someL x v 6).length : Int)) ∧ ((liveL x v.name).length : Int) ≤ v.want + v.over
 ·rw [if_pos c3, if_neg (fun h => by
   rcases h.2.1 with h4 | h4
   ·exact (hcalm.1 h4) c3.1
   ·omega)]
  rfl
 ·rw [if_neg c3]
  have hne : lvF x v.name (fun _ => true) ≠ [] := fun e => by
   rw [← live_all_eq] at e
   have := congrArg List.length e
   rw [List.length_map, List.length_nil] at this
   have h9 : 0 ≤ v.want := by
    obtain ⟨j, hj⟩ := List.getElem?_of_mem hm
    exact (svNum (hv.s1 j v hj)).want.1
   omega
  have hbm := bestC_mem x v.image _ hne
  rw [lvF_eq] at hbm
  have hb2 := (List.mem_filter.1 hbm).1
  have hb3 := lvB_service (List.mem_filter.1 hb2).2
  have hmay : mayB x v.name (bestF x v.image (liveL x v.name)).number = letB x v (bestC x v.image (lvF x v.name (fun _ => true))) := by
   rw [best_map, live_all_eq]
   rw [lvF_eq]
   have := may_let hv hm hb2
   rw [hb3] at this
   exact this
  have hcond : (v.want < ((liveL x v.name).length : Int) ∧ (calmB x v = true ∨ v.want + v.over < ((liveL x v.name).length : Int)) ∧ mayB x v.name (bestF x v.image (liveL x v.name)).number = true) ↔ letB x v (bestC x v.image (lvF x v.name (fun _ => true))) = true := by
   rw [hmay]
   constructor
   ·exact fun h => h.2.2
   ·intro h
    refine ⟨by omega, ?_, h⟩
    by_cases hc : calmB x v = true
    ·exact .inl hc
    ·refine .inr ?_
     have h5 : (0 < ((someL x v 2).length : Int) ∨ 0 < ((someL x v 6).length : Int)) := by
      by_cases h6 : (0 < ((someL x v 2).length : Int) ∨ 0 < ((someL x v 6).length : Int))
      ·exact h6
      ·exact absurd (hcalm.2 h6) hc
     by_cases h7 : ((liveL x v.name).length : Int) ≤ v.want + v.over
     ·exact absurd ⟨h5, h7⟩ c3
     ·omega
  have hie : (lvF x v.name (fun _ => true)).isEmpty = false := by
   cases hq : lvF x v.name (fun _ => true) with
   | nil => exact absurd hq hne
   | cons => rfl
  cases hlb : letB x v (bestC x v.image (lvF x v.name (fun _ => true))) with
  | true =>
   rw [if_pos (hcond.2 hlb)]
   show _ = setA (eA (firC x v _)) v
   unfold firC
   rw [hie, hlb, first_map, live_all_eq]
   unfold fstC
   rw [hie]
   rfl
  | false =>
   rw [if_neg (fun h => by have := hcond.1 h; rw [hlb] at this; cases this)]
   show _ = setA (eA (firC x v _)) v
   unfold firC
   rw [hie, hlb]
   rfl

theorem act_eq {x : Sbk} (hv : SVal x) {v : Ssv} (hm : v ∈ x.services) {kd : Int} (hk : 1 ≤ kd ∧ kd ≤ 6) : actA kd x v = setA (caP kd x v (cntL x.copies v.name v.image) (lvN x v : Nat)) v := by
 obtain ⟨j, hj⟩ := List.getElem?_of_mem hm
 have hsv := hv.s1 j v hj
 have hN := svNum hsv
 have hk6 : kd = 1 ∨ kd = 2 ∨ kd = 3 ∨ kd = 4 ∨ kd = 5 ∨ kd = 6 := by omega
 unfold actA caP
 rcases hk6 with rfl | rfl | rfl | rfl | rfl | rfl
 ·rw [if_neg (by decide), if_pos rfl, if_pos rfl]
  cases hg : v.gone with
  | true => rw [if_pos rfl, if_neg (by decide)]; unfold kcP; rw [if_pos (.inl hg)]; rfl
  | false => rw [if_neg Bool.false_ne_true]; exact cu_eq hv hm hg
 ·rw [if_neg (by decide)]
  rw [if_neg (c := (2 : Int) = 1) (by decide), if_pos rfl, if_neg (c := (2 : Int) = 1) (by decide), if_pos rfl]
  unfold rnP
  cases hg : v.gone with
  | true => rw [if_pos rfl, if_neg (by decide), if_pos (.inl rfl)]; rfl
  | false =>
   rw [if_neg Bool.false_ne_true]
   by_cases h0 : (someL x v 2).length = 0
   ·rw [re_none x v _ h0, if_pos (.inr (by rw [(cnt_live x v).2.1]; omega))]
   ·rw [re_eq hv hm hg 2 h0, some2, if_neg (fun h => by rcases h with h | h; cases h; rw [(cnt_live x v).2.1] at h; omega)]
 ·rw [if_pos rfl, if_neg (by decide), if_neg (by decide), if_pos rfl]
  unfold mdP
  rw [ends_map, some_map, some3]
  rfl
 ·rw [if_neg (by decide)]
  rw [if_neg (c := (4 : Int) = 1) (by decide), if_neg (c := (4 : Int) = 2) (by decide), if_neg (c := (4 : Int) = 6) (by decide), if_pos rfl]
  rw [if_neg (c := (4 : Int) = 1) (by decide), if_neg (c := (4 : Int) = 2) (by decide), if_neg (c := (4 : Int) = 3) (by decide), if_pos rfl]
  cases hg : v.gone with
  | true => rw [if_pos rfl, if_neg (by decide)]; unfold flP; rw [if_pos (.inl hg)]; rfl
  | false =>
   rw [if_neg Bool.false_ne_true]
   by_cases hp : 0 < v.per
   ·rw [if_pos hp]; exact sc_eq hN (sld_le hsv hp) hg hp
   ·rw [if_neg hp]; unfold flP; rw [if_pos (.inr (by have := hN.per; omega))]; rfl
 ·rw [if_neg (by decide)]
  rw [if_neg (c := (5 : Int) = 1) (by decide), if_neg (c := (5 : Int) = 2) (by decide), if_neg (c := (5 : Int) = 3) (by decide), if_neg (c := (5 : Int) = 4) (by decide), if_pos rfl]
  unfold swP
  cases hg : v.gone with
  | true =>
   rw [if_pos rfl, if_pos rfl, if_pos rfl, ends_map, live_all_eq]
   have hno : noneB x v = (((cntL x.copies v.name v.image).live == 0) && ((cntL x.copies v.name v.image).ending == 0)) := by
    unfold noneB cntS
    rw [find_svc hv hm]
    simp only
    have h1 := (cnt_small hv v)
    obtain ⟨q1, _, _, _, _, _, _, _, q9, _⟩ := h1
    by_cases e1 : (cntL x.copies v.name v.image).live = 0
    ·rw [e1]; simp
    ·have e2 : ((cntL x.copies v.name v.image).live == 0) = false := by simpa using e1
     rw [e2]
     have e3 : ¬ (cntL x.copies v.name v.image).live + (cntL x.copies v.name v.image).ending = 0 := by omega
     simpa using e3
   rw [hno]
   rfl
  | false =>
   rw [if_neg Bool.false_ne_true, if_neg (by decide), if_neg (by decide), if_neg (by decide), if_neg (by decide), if_neg Bool.false_ne_true]
   rfl
 ·rw [if_neg (by decide)]
  rw [if_neg (c := (6 : Int) = 1) (by decide), if_neg (c := (6 : Int) = 2) (by decide), if_pos rfl]
  rw [if_neg (c := (6 : Int) = 1) (by decide), if_neg (c := (6 : Int) = 2) (by decide), if_neg (c := (6 : Int) = 3) (by decide), if_neg (c := (6 : Int) = 4) (by decide), if_neg (c := (6 : Int) = 5) (by decide), if_neg (c := (6 : Int) = 5) (by decide)]
  unfold dnP
  cases hg : v.gone with
  | true => rw [if_pos rfl, if_pos (.inl rfl)]; rfl
  | false =>
   rw [if_neg Bool.false_ne_true, lvN_eq]
   by_cases h0 : (someL x v 2).length = 0
   ·rw [if_pos h0]
    by_cases h1 : (someL x v 6).length = 0
    ·rw [re_none x v _ h1, if_pos (.inr (.inr (by omega)))]
    ·rw [re_eq hv hm hg 6 h1, some6, if_neg (fun h => by rcases h with h | h | h; cases h; rw [(cnt_live x v).2.1] at h; omega; omega)]
   ·rw [if_neg h0, if_pos (.inr (.inl (by rw [(cnt_live x v).2.1]; omega)))]; rfl

theorem create_nonneg (x : Sbk) (v : Ssv) (kd : Int) (lv : Int) : 0 ≤ (caP kd x v (cntL x.copies v.name v.image) lv).create := by
 have hr : ∀ f, 0 ≤ (rpP x v (cntL x.copies v.name v.image) f).create := fun f => by unfold rpP nA eA; split; exact Int.le_refl _; split; (show (0 : Int) ≤ 1; decide); exact Int.le_refl _
 unfold caP
 split
 ·unfold kcP nA eA; split; exact Int.le_refl _; split; (show 0 ≤ v.want - _; omega); split <;> exact Int.le_refl _
 split
 ·unfold rnP; split; exact Int.le_refl _; exact hr _
 split
 ·exact Int.le_refl _
 split
 ·unfold flP scP nA; repeat (first | exact Int.le_refl _ | split)
 split
 ·unfold swP nA; split <;> exact Int.le_refl _
 ·unfold dnP; split; exact Int.le_refl _; exact hr _

theorem noth_eq {a : Sac} (v : Ssv) (h : 0 ≤ a.create) : asksB (setA a v) = !nothB a := by
 unfold asksB nothB setA
 simp only
 have e1 : decide (0 < a.create) = !(a.create == 0) := by
  by_cases h0 : a.create = 0
  ·rw [h0]; rfl
  ·rw [decide_eq_true (show 0 < a.create by omega)]
   have : (a.create == 0) = false := by simpa using h0
   rw [this]; rfl
 have e2 : decide (0 < a.ends.length) = !(a.ends.length == 0) := by
  by_cases h0 : a.ends.length = 0
  ·rw [h0]; rfl
  ·rw [decide_eq_true (show 0 < a.ends.length by omega)]
   have : (a.ends.length == 0) = false := by simpa using h0
   rw [this]; rfl
 rw [e1, e2]
 cases (a.create == 0) <;> cases a.scale <;> cases (a.ends.length == 0) <;> cases a.drop <;> rfl

theorem ask_other {x : Sbk} {kd : Int} (hk : ¬ (1 ≤ kd ∧ kd ≤ 6)) : askL kd x = [] := by
 unfold askL
 rw [List.filter_eq_nil_iff]
 intro a ha
 obtain ⟨v, _, rfl⟩ := List.mem_map.1 ha
 unfold actA
 rw [if_neg (by omega)]
 split
 ·rw [if_neg (by omega)]; exact Bool.false_ne_true
 ·rw [if_neg (by omega), if_neg (by omega), if_neg (by omega), if_neg (by omega)]; exact Bool.false_ne_true

end Go.Proofs.YtnggdpjfmpjlhaaGreat
