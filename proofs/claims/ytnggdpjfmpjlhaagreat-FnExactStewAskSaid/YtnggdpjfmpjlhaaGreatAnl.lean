import Derived.Test.YtnggdpjfmpjlhaaGreatSk9
import Derived.Test.YtnggdpjfmpjlhaaGreatMxa
namespace Go.Proofs.YtnggdpjfmpjlhaaGreat
open Go.RowKit

theorem en_ite {c : Prop} [Decidable c] {a b : Sac} {n : Nat} (ha : a.ends.length ≤ n) (hb : b.ends.length ≤ n) : (if c then a else b).ends.length ≤ n := by
 by_cases h : c
 ·rw [if_pos h]; exact ha
 ·rw [if_neg h]; exact hb
theorem first_len (x : Sbk) (im : Int) (l : List Nat) : (firstL x im l).length ≤ 200 := by
 cases l with
 | nil => exact Nat.zero_le _
 | cons i r => show 1 ≤ 200; omega
theorem cu_ends (x : Sbk) (v : Ssv) : (cuA x v).ends.length ≤ 200 := en_ite (Nat.zero_le _) (en_ite (first_len _ _ _) (Nat.zero_le _))
theorem re_ends (x : Sbk) (v : Ssv) (l : List Nat) : (reA x v l).ends.length ≤ 200 := en_ite (Nat.zero_le _) (en_ite (Nat.zero_le _) (first_len _ _ _))
theorem sc_ends (v : Ssv) : (scA v).ends.length ≤ 200 := en_ite (Nat.zero_le _) (en_ite (Nat.zero_le _) (en_ite (Nat.zero_le _) (en_ite (en_ite (Nat.zero_le _) (Nat.zero_le _)) (en_ite (Nat.zero_le _) (Nat.zero_le _)))))
theorem act_ends {x : Sbk} (h : x.copies.length ≤ 200) (kd : Int) (v : Ssv) : (actA kd x v).ends.length ≤ 200 :=
 en_ite (by show ((someL x v 3).map _).length ≤ 200; rw [List.length_map]; exact some_len h v 3) (en_ite (en_ite (by show ((liveL x v.name).map _).length ≤ 200; rw [List.length_map]; exact live_small h v.name) (Nat.zero_le _)) (en_ite (cu_ends x v) (en_ite (re_ends x v _) (en_ite (en_ite (re_ends x v _) (Nat.zero_le _)) (en_ite (en_ite (sc_ends v) (Nat.zero_le _)) (Nat.zero_le _))))))

theorem name_small {s : ByteArray} (h : snB s = true) : s.size ≤ 20 := by
 unfold snB at h
 simp at h
 omega

structure SmA (l : List Sac) : Prop where
 len : l.length ≤ 8
 each : ∀ a ∈ l, a.service.size ≤ 20 ∧ a.ends.length ≤ 200

theorem ask_small {x : Sbk} (h : SVal x) (kd : Int) : SmA (askL kd x) := by
 refine ⟨?_, fun a ha => ?_⟩
 ·have h1 := List.length_filter_le asksB (x.services.map (actA kd x))
  have h2 := h.l1
  rw [List.length_map] at h1
  unfold askL
  omega
 ·unfold askL at ha
  obtain ⟨v, hv, rfl⟩ := List.mem_map.1 (List.mem_filter.1 ha).1
  refine ⟨?_, act_ends h.l2 kd v⟩
  rw [act_service]
  obtain ⟨j, hj⟩ := List.getElem?_of_mem hv
  have h3 := h.s1 j v hj
  unfold svB at h3
  simp only [Bool.and_eq_true] at h3
  exact name_small h3.1.1.1.1.1.1.1.1
theorem nil_small : SmA [] := ⟨Nat.zero_le _, fun a ha => by cases ha⟩

theorem sum_bound {α : Type} (f : α → Nat) (m : Nat) : ∀ l : List α, (∀ a ∈ l, f a ≤ m) → (l.map f).sum ≤ l.length * m
 | [], _ => Nat.zero_le _
 | a :: r, h => by
  have h1 := h a (by simp)
  have h2 := sum_bound f m r (fun b hb => h b (by simp [hb]))
  simp only [List.map_cons, List.sum_cons, List.length_cons, Nat.succ_mul]
  omega

theorem SmA.w {l : List Sac} (h : SmA l) : wS wSac l ≤ 1048576 := by
 have h1 := sum_bound wSac 1000 l (fun a ha => by
  have := h.each a ha
  have h3 : wS wSen a.ends = a.ends.length + (a.ends.map wSen).sum := rfl
  have h2 := sum_bound wSen 0 a.ends (fun e _ => Nat.le_refl _)
  unfold wSac
  omega)
 have h2 : wS wSac l = l.length + (l.map wSac).sum := rfl
 have h3 := h.len
 have h4 : l.length * 1000 ≤ 8 * 1000 := Nat.mul_le_mul_right _ h3
 omega

abbrev nsA (l : List Sac) : List Nat := l.map (fun a => a.ends.length)
theorem SmA.t {l : List Sac} (h : SmA l) : tT 1 (nsA l) (nsA l).length ≤ 1000000 := by
 unfold tT
 rw [List.take_length]
 have h1 := sum_bound (fun n => 7 + n * 2) 500 (nsA l) (fun n hn => by
  obtain ⟨a, ha, rfl⟩ := List.mem_map.1 hn
  have := (h.each a ha).2
  show 7 + a.ends.length * 2 ≤ 500
  omega)
 have h3 : (nsA l).length ≤ 8 := by rw [List.length_map]; exact h.len
 have h4 : (nsA l).length * 500 ≤ 8 * 500 := Nat.mul_le_mul_right _ h3
 omega

def AnsL (lo : Nat) (w : World) (a : Option Addr) (l : List Sac) : Prop := SliceC SacC 8 lo w a l ∧ (l = [] ∨ ∃ (g : Nat) (ea : Nat → Option Addr) (ec : Nat → Nat), a = some ⟨g, 0, none⟩ ∧ lo ≤ g ∧ AnsA w g (nsA l) ea ec ∧ ∀ j n b o, (nsA l)[j]? = some n → 0 < n → ea j = some ⟨b, o, none⟩ → lo ≤ b)

def ImRes (kd : Int) (x : Sbk) (w : World) (e : Ending) (w' : World) : Prop := ∃ (a : Option Addr) (q : Nat) (l : List Sac), e = .returned (.slice a l.length q) ∧ (SVal x → l = askL kd x) ∧ (¬ SVal x → l = []) ∧ AnsL w.heap.size w' a l ∧ Below w.heap.size w w'

theorem EnK.keeps {w w' : World} {b o n lo : Nat} (h : EnK w b o n) (hk : Keeps lo w w') (hl : b < w.heap.size) (hlo : lo ≤ b) : EnK w' b o n :=
 ⟨fun t ht => by obtain ⟨u, hu⟩ := h.1 t ht; exact ⟨u, ((hk.2 b (o + t) hlo hl).1).trans hu⟩, fun p => ((hk.2 b p hlo hl).2).trans (h.2 p)⟩

theorem AnsL.keep {lo : Nat} {w w' : World} {a : Option Addr} {l : List Sac} (h : AnsL lo w a l) (hk : Keeps lo w w') : AnsL lo w' a l := by
 refine ⟨h.1.keep SacC.holds hk (Nat.le_refl _), ?_⟩
 rcases h.2 with h | ⟨g, ea, ec, e, hlo, hA, hb⟩
 ·exact .inl h
 ·refine .inr ⟨g, ea, ec, e, hlo, ⟨Nat.lt_of_lt_of_le hA.lt hk.1, hA.row.keeps hk hA.lt hlo, fun j n hj => ((hk.2 g _ hlo hA.lt).1).trans (hA.sl j n hj), fun j n hj hn => ?_, hA.ap⟩, hb⟩
  obtain ⟨b, o, e2, hne, hk2⟩ := hA.en j n hj hn
  exact ⟨b, o, e2, hne, hk2.keeps hk (hk2.lt (by omega)) (hb j n b o hj hn e2)⟩
theorem AnsL.below {lo : Nat} {w w' : World} {a : Option Addr} {l : List Sac} (h : AnsL lo w a l) (hb : Below w.heap.size w w') : AnsL lo w' a l := h.keep (Keeps.of_below hb (Nat.le_refl _) _)

def MkL (w : World) (a : Option Addr) (l : List Sac) : Prop := l = [] ∨ ∃ (g : Nat) (ea : Nat → Option Addr) (ec : Nat → Nat), a = some ⟨g, 0, none⟩ ∧ MkA w g (nsA l) ea 1 (nsA l).length ∧ ∀ j n, (nsA l)[j]? = some n → w.cell? ⟨g, j * 8 + 6, none⟩ = some (.slice (ea j) n (ec j))
theorem MkL.below {w w' : World} {a : Option Addr} {l : List Sac} (h : MkL w a l) (hb : Below w.heap.size w w') : MkL w' a l := by
 rcases h with h | ⟨g, ea, ec, e, hM, hS⟩
 ·exact .inl h
 ·exact .inr ⟨g, ea, ec, e, hM.below hb, fun j n hj => (hb.cell (p := ⟨g, j * 8 + 6, none⟩) (block_lt_of_cell (hS j n hj))).trans (hS j n hj)⟩

set_option maxHeartbeats 2000000 in
theorem markActs0_any (a : Option Addr) (cap : Nat) (k : Int) (w : World) :
  Calls Tryz.prog 11 #[.slice a 0 cap, .int .i64 k] w fun e w' => e = .returned (.int .i64 k) ∧ w' = w := by
 go_enter Tryz.func11, Tryz.ntmps11
 go_wp2_with fail
 go_loopw [1, 5] (fun v i wr => v = .int .i64 k ∧ i = .int .i64 0 ∧ wr = w) (fun _ _ _ => 0)
 case atStart => exact ⟨rfl, rfl, rfl⟩
 case round =>
  obtain ⟨rfl, rfl, rfl⟩ := hrel
  go_wp2_with fail
  go_ret
  exact ⟨rfl, rfl⟩

set_option maxHeartbeats 2000000 in
theorem heldActs0_any (a : Option Addr) (cap : Nat) (k : Int) (w : World) :
  Calls Tryz.prog 12 #[.slice a 0 cap, .int .i64 k] w fun e w' => e = .returned (.int .i64 k) ∧ w' = w := by
 go_enter Tryz.func12, Tryz.ntmps12
 go_wp2_with fail
 go_loopw [1, 5] (fun v i wr => v = .int .i64 k ∧ i = .int .i64 0 ∧ wr = w) (fun _ _ _ => 0)
 case atStart => exact ⟨rfl, rfl, rfl⟩
 case round =>
  obtain ⟨rfl, rfl, rfl⟩ := hrel
  go_wp2_with fail
  go_ret
  exact ⟨rfl, rfl⟩

abbrev tL (l : List Sac) : Int := ((tT 1 (nsA l) (nsA l).length : Nat) : Int)

theorem markL_any (lo : Nat) (w : World) (a : Option Addr) (l : List Sac) (cap : Nat) (h : AnsL lo w a l) (hs : SmA l) (hlo : lo ≤ w.heap.size) :
  Calls Tryz.prog 11 #[.slice a l.length cap, .int .i64 1] w fun e w' => e = .returned (.int .i64 (tL l)) ∧ MkL w' a l ∧ Below lo w w' := by
 rcases h.2 with rfl | ⟨g, ea, ec, rfl, hg, hA, hb⟩
 ·refine (markActs0_any a cap 1 w).mono ?_
  rintro e w' ⟨rfl, rfl⟩
  exact ⟨rfl, .inl rfl, Below.refl _ _⟩
 ·have h1 := markActs_any g (nsA l) ea ec cap 1 lo w hA (by omega) hs.t ⟨hg, hlo, hb⟩ (by rw [List.length_map]; have := hs.len; omega)
  rw [List.length_map] at h1
  refine h1.mono ?_
  rintro e w' ⟨rfl, hM, hB, hS⟩
  refine ⟨by show _ = Ending.returned (.int .i64 ((tT 1 (nsA l) (nsA l).length : Nat) : Int)); rw [List.length_map], .inr ⟨g, ea, ec, rfl, by rw [List.length_map]; exact hM, hS⟩, hB⟩

theorem heldL_any (w : World) (a : Option Addr) (l : List Sac) (cap : Nat) (h : MkL w a l) (hs : SmA l) :
  Calls Tryz.prog 12 #[.slice a l.length cap, .int .i64 1] w fun e w' => e = .returned (.int .i64 (tL l)) ∧ Below w.heap.size w w' := by
 rcases h with rfl | ⟨g, ea, ec, rfl, hM, hS⟩
 ·refine (heldActs0_any a cap 1 w).mono ?_
  rintro e w' ⟨rfl, rfl⟩
  exact ⟨rfl, Below.refl _ _⟩
 ·have h1 := heldActs_any g (nsA l) ea ec cap 1 w hM hS (by omega) hs.t (by rw [List.length_map]; have := hs.len; omega)
  rw [List.length_map] at h1
  refine h1.mono ?_
  rintro e w' ⟨rfl, hB⟩
  exact ⟨by show _ = Ending.returned (.int .i64 ((tT 1 (nsA l) (nsA l).length : Nat) : Int)); rw [List.length_map], hB⟩

end Go.Proofs.YtnggdpjfmpjlhaaGreat
