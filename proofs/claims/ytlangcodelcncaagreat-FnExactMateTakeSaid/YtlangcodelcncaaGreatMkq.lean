import Derived.Test.YtlangcodelcncaaGreatTk7
import Derived.Test.YtlangcodelcncaaGreatMkm
namespace Go.Proofs.YtlangcodelcncaaGreat
open Go.RowKit

structure PSz (q : Pcl) : Prop where
  z3 : SzWnt q.wants 1048576
  l3 : q.wants.length ≤ 1048576
  zb : q.berth.size ≤ 1048576
  zh : q.hold.size ≤ 1048576
  zc : q.copy.size ≤ 1048576

theorem PSz.of {q : Pcl} (h : wPcl q ≤ 1048576) : PSz q where
  z3 := fun y hy => by
    have h2 : wWnt y ≤ wS wWnt q.wants := mem_wS hy
    have h3 : y.copy.size + y.hold.size ≤ wWnt y := Nat.le_refl _
    unfold wPcl at h
    omega
  l3 := by have := wS_len (f := wWnt) (xs := q.wants); unfold wPcl at h; omega
  zb := by unfold wPcl at h; omega
  zh := by unfold wPcl at h; omega
  zc := by unfold wPcl at h; omega

theorem wS_filt (P : Aks → Bool) (xs : List Aks) : wS wAks (xs.filter P) ≤ wS wAks xs := by
  induction xs with
  | nil => exact Nat.le_refl _
  | cons a r ih =>
    unfold wS at ih ⊢
    by_cases h : P a = true
    · rw [List.filter_cons_of_pos h]
      simp only [List.length_cons, List.map_cons, List.sum_cons]
      omega
    · rw [List.filter_cons_of_neg h]
      simp only [List.length_cons, List.map_cons, List.sum_cons]
      omega

theorem wS_upd (q : Pcl) (xs : List Rn) : wS wRn (xs.map (updR q)) = wS wRn xs := by
  unfold wS
  rw [List.length_map, List.map_map]
  congr 2
  apply List.map_congr_left
  intro r _
  simp only [Function.comp]
  unfold wRn
  rw [updR_copy]

theorem take_w (x : Mte) (q : Pcl) : wMte (takeM x q) ≤ wMte x + wPcl q := by
  unfold takeM
  split
  · split
    · unfold takeP
      split
      · unfold hearM
        split
        · unfold wMte wPcl
          simp only []
          omega
        · omega
      · split
        · unfold leaseM
          split
          · unfold wMte
            simp only []
            rw [wS_upd]
            omega
          · omega
        · split
          · unfold forgetM
            split
            · have h9 := wS_filt (fun g => !decide (g.hold = q.hold)) x.gives
              unfold wMte
              simp only []
              omega
            · omega
          · omega
    · omega
  · exact Nat.zero_le _

theorem trunc3 {lo h : Nat} {w w7 : World} {a : Option Addr} {xs : List Wnt} (hs7 : SliceC WntC 7 lo w7 a xs) (h7 : w7.heap.size ≤ h) (hs : SliceC WntC 7 lo w a xs) (hl : h ≤ w.heap.size) : SliceC WntC 7 lo (trunc w h) a xs := by
  rcases hs7.2 with h0 | ⟨b, o, rfl, _, h2, _⟩
  · exact ⟨hs.1, .inl h0⟩
  · exact truncWnt hs (fun b' o' s e => by cases e; omega) hl

set_option maxHeartbeats 1000000 in
set_option maxRecDepth 100000 in
theorem markPcl_any (q : Pcl) (a3 : Option Addr) (c3 lo k : Nat) (wx ws w : World) (hin : SliceC WntC 7 lo wx a3 q.wants) (hlo : 0 < lo) (hm0 : Mkd lo wx ws w) (h0 : 0 < k) (h1 : k + q.wants.length * 7 ≤ 1073741824) :
    Calls Tryz.prog 14 #[.agg #[.int .i64 q.kind, .string q.berth, .int .i64 q.seen, .slice a3 q.wants.length c3, .string q.hold, .string q.copy, .int .i64 q.at_], .int .i64 (k : Int)] w fun e w' => e = .returned (.int .i64 ((k + q.wants.length * 7 : Nat) : Int)) ∧ Mkd lo wx ws w' := by
  have S := Hid.intro hin
  clear hin
  have HK1 : Hid (Blk w.heap.size #[.int .i64 q.kind, .string q.berth, .int .i64 q.seen, .slice a3 q.wants.length c3, .string q.hold, .string q.copy, .int .i64 q.at_] 39 (w.alloc (Obj.cells #[.int .i64 q.kind, .string q.berth, .int .i64 q.seen, .slice a3 q.wants.length c3, .string q.hold, .string q.copy, .int .i64 q.at_] 39))) := Blk.alloc _ _ _
  have M1 := Hid.intro (hm0.below ((Below.refl _ w).alloc (Nat.le_refl _) (Obj.cells #[.int .i64 q.kind, .string q.berth, .int .i64 q.seen, .slice a3 q.wants.length c3, .string q.hold, .string q.copy, .int .i64 q.at_] 39)))
  clear hm0
  go_enter Tryz.func14, Tryz.ntmps14
  go_upto_region 1 with fail
  generalize w.alloc (Obj.cells #[.int .i64 q.kind, .string q.berth, .int .i64 q.seen, .slice a3 q.wants.length c3, .string q.hold, .string q.copy, .int .i64 q.at_] 39) = w1 at *
  have k3 : w1.cell? ⟨w.heap.size, 3, none⟩ = some (.slice a3 q.wants.length c3) := HK1.out.cell rfl
  go_wp2_with fail
  refine (markWntV_any q.wants a3 c3 lo k wx ws _ S.out hlo M1.out h0 h1).mono ?_
  rintro e w2 ⟨rfl, _, hm⟩
  have M2 := Hid.intro hm
  clear hm M1 HK1 k3
  go_wp2_with fail
  go_ret
  exact ⟨rfl, M2.out⟩

end Go.Proofs.YtlangcodelcncaaGreat
