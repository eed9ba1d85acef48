import Derived.Test.YtnifmiacobfplaaRis
namespace Go.Proofs.Ytnifmiacobfplaa
open Go.RowKit

def killR (x : Rn) : Rn := { x with state := 2, left := 0 }

theorem rvRn_app : ∀ (xs ys : List Rn), rvRn (xs ++ ys) = rvRn xs ++ rvRn ys
 | [], _ => rfl
 | x :: r, ys => by simp only [List.cons_append, rvRn, rvRn_app r ys, List.append_assoc]

theorem rvRn_set : ∀ (xs : List Rn) (k : Nat) (x y : Rn), xs[k]? = some x → setRun (rvRn xs) (k * 11) (rcRn y) = rvRn (xs.set k y)
 | [], _, _, _, h => by simp at h
 | z :: r, 0, x, y, h => rfl
 | z :: r, k + 1, x, y, h => by
  simp at h
  simp only [rvRn, List.set_cons_succ]
  rw [setRun_app _ _ _ _ (by rw [rcRn_len]; omega), rcRn_len, show (k + 1) * 11 - 11 = k * 11 by omega, rvRn_set r k x y h]

theorem own_blk {base n : Nat} {w : World} {e : TypeId} {s : Nat} {cs : List Value} {v : Value} (h : w.ownsRow base e s v n cs) : ∀ j, v.ownBlock = some j → base ≤ j := by
 intro j hj
 rcases h.2 with ⟨h1, _⟩ | ⟨g', cap', cur, h1, h2, _⟩
 ·rw [h1] at hj
  cases hj
 ·rw [h1] at hj
  cases hj
  exact h2

theorem own_spot {base n cap : Nat} {a : Option Addr} {w : World} {e : TypeId} {s : Nat} {cs : List Value} (h : w.ownsRow base e s (.slice a n cap) n cs) : ∀ b o sp, a = some ⟨b, o, sp⟩ → sp = none := by
 intro b o sp ea
 rcases h.2 with ⟨h1, _⟩ | ⟨g', cap', cur, h1, _⟩
 ·rw [ea] at h1
  cases h1
 ·have e2 : a = some ⟨g', 0, none⟩ := by injection h1
  rw [e2] at ea
  cases ea
  rfl

theorem filt_step {P : Rn → Bool} {xs : List Rn} {k : Nat} {x : Rn} (h : xs[k]? = some x) : (xs.take (k + 1)).filter P = (xs.take k).filter P ++ (if P x = true then [x] else []) := by
 rw [List.take_add_one, h, List.filter_append]
 congr 1
 simp [List.filter_cons]

set_option maxHeartbeats 4000000 in
set_option maxRecDepth 100000 in
theorem only_any (f : Nat) (P : Rn → Bool) (xs : List Rn) (a : Option Addr) (cap lo : Nat) (w : World) (hin : SliceC RnC 11 lo w a xs) (hsm : xs.length ≤ 1048576)
  (hf : ∀ x v, Calls Try.prog f #[.agg #[.string x.want.copy, .int .i64 x.want.version, .string x.want.hold, .int .i64 x.want.pull, .int .i64 x.want.start, .int .i64 x.want.dies, .int .i64 x.want.grace, .int .i64 x.state, .int .i64 x.left, .int .i64 x.falls, .int .i64 x.until_]] v fun e w' => e = .returned (.bool (P x)) ∧ Below v.heap.size v w') (heg : ∀ args w, (callFunc f args).run Try.prog w = .ok (.enter f args) w) :
  Calls Try.prog 18 #[.slice a xs.length cap, .func (.func f) #[] #[]] w fun e w' => ∃ b q, e = .returned (.slice b (xs.filter P).length q) ∧ w'.ownsRow w.heap.size 38 11 (.slice b (xs.filter P).length q) (xs.filter P).length (rvRn (xs.filter P)) ∧ Below w.heap.size w w' := by
 obtain ⟨i0, hi, hz0, hz1, hz2⟩ := info_parts info_Rn
 have HI := Hid.intro hin
 have HF := Hid.intro hf
 clear hin hf
 go_enter Try.func18, Try.ntmps18
 go_wp2_with fail
 go_loopw [5, 10] (fun v i wr => ∃ (k : Nat) (b : Option Addr) (q m : Nat), k ≤ xs.length ∧ i = .int .i64 k ∧ v = .slice b m q ∧ Hid (m = ((xs.take k).filter P).length) ∧ m ≤ k ∧ Hid (wr.ownsRow w.heap.size 38 11 (.slice b m q) m (rvRn ((xs.take k).filter P))) ∧ Below w.heap.size w wr) (fun _ i _ => xs.length - (intOf i).toNat)
 case atStart => exact ⟨0, none, 0, 0, Nat.zero_le _, rfl, rfl, rfl, Nat.le_refl _, World.ownsRow_nil _ _ _ _, Below.refl _ _⟩
 case round =>
  obtain ⟨k, b1, q, m, hk, rfl, rfl, HML, hmk, HO, hB⟩ := hrel
  by_cases hlt : k < xs.length
  case neg =>
   have hke : k = xs.length := by omega
   subst hke
   rw [List.take_length] at HML HO
   have HE := HML.out
   subst HE
   go_wp2_with fail
   go_ret
   exact ⟨b1, q, rfl, HO.out, hB⟩
  obtain ⟨x, hx⟩ : ∃ x, xs[k]? = some x := ⟨xs[k], List.getElem?_eq_getElem hlt⟩
  obtain ⟨b, ob, rfl, _, hbl, hc⟩ := (HI.out.below RnC.holds hB (Nat.le_refl _)).at hx
  have HRA := Hid.intro (range_of_cells hc)
  have HST := Hid.intro (filt_step (P := P) hx)
  clear hc hx
  have hb4 : Below wr.heap.size wr (wr.alloc (Obj.cells #[.string x.want.copy, .int .i64 x.want.version, .string x.want.hold, .int .i64 x.want.pull, .int .i64 x.want.start, .int .i64 x.want.dies, .int .i64 x.want.grace, .int .i64 x.state, .int .i64 x.left, .int .i64 x.falls, .int .i64 x.until_] 38)) := (Below.refl _ _).alloc (Nat.le_refl _) _
  have HK4 : Hid (Blk wr.heap.size #[.string x.want.copy, .int .i64 x.want.version, .string x.want.hold, .int .i64 x.want.pull, .int .i64 x.want.start, .int .i64 x.want.dies, .int .i64 x.want.grace, .int .i64 x.state, .int .i64 x.left, .int .i64 x.falls, .int .i64 x.until_] 38 (wr.alloc (Obj.cells #[.string x.want.copy, .int .i64 x.want.version, .string x.want.hold, .int .i64 x.want.pull, .int .i64 x.want.start, .int .i64 x.want.dies, .int .i64 x.want.grace, .int .i64 x.state, .int .i64 x.left, .int .i64 x.falls, .int .i64 x.until_] 38))) := Blk.alloc _ _ _
  have HO4 := Hid.intro (ownsRow_below HO.out hb4)
  have hB4 := hB.trans (hb4.mono hB.size)
  clear hb4 HO hB
  go_upto_region 5 with (refine wpList_load_mid rfl 38 _ rfl b (ob + k * 11) (by first | rfl | (simp [go_sem]; done)) [.string x.want.copy, .int .i64 x.want.version, .string x.want.hold, .int .i64 x.want.pull, .int .i64 x.want.start, .int .i64 x.want.dies, .int .i64 x.want.grace, .int .i64 x.state, .int .i64 x.left, .int .i64 x.falls, .int .i64 x.until_] _ HRA.out Try.underlying38 rfl isz_Rn ?_)
  clear HRA
  generalize wr.alloc (Obj.cells #[.string x.want.copy, .int .i64 x.want.version, .string x.want.hold, .int .i64 x.want.pull, .int .i64 x.want.start, .int .i64 x.want.dies, .int .i64 x.want.grace, .int .i64 x.state, .int .i64 x.left, .int .i64 x.falls, .int .i64 x.until_] 38) = w4 at *
  generalize wr.heap.size = p at *
  go_wp2_with (refine wpList_load_mid rfl 38 _ rfl p 0 rfl [.string x.want.copy, .int .i64 x.want.version, .string x.want.hold, .int .i64 x.want.pull, .int .i64 x.want.start, .int .i64 x.want.dies, .int .i64 x.want.grace, .int .i64 x.state, .int .i64 x.left, .int .i64 x.falls, .int .i64 x.until_] _ HK4.out.rangeA Try.underlying38 rfl isz_Rn ?_)
  refine (HF.out x _).mono ?_
  rintro e w5 ⟨rfl, hb5⟩
  have HK5 := Hid.intro (HK4.out.below hb5 HK4.out.lt)
  have HO5 := Hid.intro (ownsRow_below HO4.out hb5)
  have hB5 := hB4.trans (hb5.mono hB4.size)
  clear hb5 hB4 HO4 HK4
  cases hP : P x with
  | false =>
   have HO6 : Hid (w5.ownsRow w.heap.size 38 11 (.slice b1 m q) m (rvRn ((xs.take (k + 1)).filter P))) := by
    show World.ownsRow _ _ _ _ _ _ _
    rw [HST.out, hP, if_neg (by simp), List.append_nil]
    exact HO5.out
   have HML2 : Hid (m = ((xs.take (k + 1)).filter P).length) := by
    show _ = _
    rw [HST.out, hP, if_neg (by simp), List.append_nil]
    exact HML.out
   clear hP HO5
   go_wp2_with fail
   go_roundw
   case rel => exact ⟨k + 1, b1, q, m, by omega, by go_num, rfl, HML2, by omega, HO6, hB5⟩
   case measure => simp [intOf]; omega
  | true =>
   obtain ⟨NV, hnv⟩ : ∃ l, l = rcRn x := ⟨_, rfl⟩
   have HNV := Hid.intro hnv
   clear hnv
   have HNL : Hid (NV.length = 1 * 11) := by show _ = _; rw [HNV.out]; rfl
   have HNN : Hid (∀ j u, NV[j]? = some u → (w5.alloc (Obj.cells #[.string x.want.copy, .int .i64 x.want.version, .string x.want.hold, .int .i64 x.want.pull, .int .i64 x.want.start, .int .i64 x.want.dies, .int .i64 x.want.grace, .int .i64 x.state, .int .i64 x.left, .int .i64 x.falls, .int .i64 x.until_] 38)).cell? ((⟨w5.heap.size, 0, none⟩ : Addr).add j) = some u) := by
    intro j u hj
    rw [Addr.add_mid]
    rw [HNV.out] at hj
    exact (Blk.alloc w5 #[.string x.want.copy, .int .i64 x.want.version, .string x.want.hold, .int .i64 x.want.pull, .int .i64 x.want.start, .int .i64 x.want.dies, .int .i64 x.want.grace, .int .i64 x.state, .int .i64 x.left, .int .i64 x.falls, .int .i64 x.until_] 38).rangeA j u hj
   have HN1 : Hid (∀ u ∈ NV, u.oneCell' = true) := by
    intro u hu
    rw [HNV.out] at hu
    exact rvRn_one [x] u (by simp only [rvRn, List.append_nil]; exact hu)
   have HOA := Hid.intro (HO5.out.alloc (Obj.cells #[.string x.want.copy, .int .i64 x.want.version, .string x.want.hold, .int .i64 x.want.pull, .int .i64 x.want.start, .int .i64 x.want.dies, .int .i64 x.want.grace, .int .i64 x.state, .int .i64 x.left, .int .i64 x.falls, .int .i64 x.until_] 38))
   have hws : w.heap.size ≤ w5.heap.size := hB5.size
   go_wp2_with (first | (refine wpList_load_mid rfl 38 _ rfl p 0 rfl [.string x.want.copy, .int .i64 x.want.version, .string x.want.hold, .int .i64 x.want.pull, .int .i64 x.want.start, .int .i64 x.want.dies, .int .i64 x.want.grace, .int .i64 x.state, .int .i64 x.left, .int .i64 x.falls, .int .i64 x.until_] _ HK5.out.rangeA Try.underlying38 rfl isz_Rn ?_) | (at_builtin; refine wpList_append_own _ rfl _ _ 24 rfl w.heap.size 38 i0 _ 11 104 Try.underlying24 hi hz0 hz1 hz2 rfl (by decide) _ m _ rfl HOA.out ⟨w5.heap.size, 0, none⟩ 1 1 NV rfl HNL.out HNN.out HN1.out (by unfold maxLen; omega) (by omega) (by simp; omega) ?_; intro v' w8 hown8 hgrow8 hnil8; have hv8 : v' ≠ .slice none 0 0 := (fun e => by have h9 := (hnil8.1 e).2; cases h9); obtain ⟨g8, q8, rfl⟩ := rowf hown8 hv8))
   have HO8 : Hid (w8.ownsRow w.heap.size 38 11 (.slice (some ⟨g8, 0, none⟩) (m + 1) q8) (m + 1) (rvRn ((xs.take (k + 1)).filter P))) := by
    show World.ownsRow _ _ _ _ _ _ _
    rw [HST.out, hP, if_pos rfl, rvRn_app]
    rw [HNV.out] at hown8
    simp only [rvRn, List.append_nil]
    exact hown8
   have HML2 : Hid (m + 1 = ((xs.take (k + 1)).filter P).length) := by
    show _ = _
    rw [HST.out, hP, if_pos rfl, List.length_append]
    rw [← HML.out]
    rfl
   have hB8 : Below w.heap.size w w8 := (hB5.alloc hB5.size _).grown hgrow8 (by have := hB5.size; simp; omega) (own_blk HO5.out)
   clear hown8 hgrow8 hnil8 hv8 hP
   go_wp2_with fail
   go_roundw
   case rel => exact ⟨k + 1, some ⟨g8, 0, none⟩, q8, m + 1, by omega, by go_num, rfl, HML2, by omega, HO8, hB8⟩
   case measure => simp [intOf]; omega

set_option maxHeartbeats 2000000 in
set_option maxRecDepth 100000 in
theorem killed_any (x : Rn) (w : World) :
  Calls Try.prog 21 #[.agg #[.string x.want.copy, .int .i64 x.want.version, .string x.want.hold, .int .i64 x.want.pull, .int .i64 x.want.start, .int .i64 x.want.dies, .int .i64 x.want.grace, .int .i64 x.state, .int .i64 x.left, .int .i64 x.falls, .int .i64 x.until_]] w fun e w' => e = .returned (.agg #[.string x.want.copy, .int .i64 x.want.version, .string x.want.hold, .int .i64 x.want.pull, .int .i64 x.want.start, .int .i64 x.want.dies, .int .i64 x.want.grace, .int .i64 2, .int .i64 0, .int .i64 x.falls, .int .i64 x.until_]) ∧ Below w.heap.size w w' := by
 have HX0 : Blk w.heap.size #[.string x.want.copy, .int .i64 x.want.version, .string x.want.hold, .int .i64 x.want.pull, .int .i64 x.want.start, .int .i64 x.want.dies, .int .i64 x.want.grace, .int .i64 x.state, .int .i64 x.left, .int .i64 x.falls, .int .i64 x.until_] 38 (w.alloc (.cells #[.string x.want.copy, .int .i64 x.want.version, .string x.want.hold, .int .i64 x.want.pull, .int .i64 x.want.start, .int .i64 x.want.dies, .int .i64 x.want.grace, .int .i64 x.state, .int .i64 x.left, .int .i64 x.falls, .int .i64 x.until_] 38)) := Blk.alloc _ _ _
 have HZ : Hid (Blk (w.heap.size + 1) #[.string ⟨#[]⟩, .int .i64 0, .string ⟨#[]⟩, .int .i64 0, .int .i64 0, .int .i64 0, .int .i64 0, .int .i64 0, .int .i64 0, .int .i64 0, .int .i64 0] 38 ((w.alloc (.cells #[.string x.want.copy, .int .i64 x.want.version, .string x.want.hold, .int .i64 x.want.pull, .int .i64 x.want.start, .int .i64 x.want.dies, .int .i64 x.want.grace, .int .i64 x.state, .int .i64 x.left, .int .i64 x.falls, .int .i64 x.until_] 38)).alloc (.cells #[.string ⟨#[]⟩, .int .i64 0, .string ⟨#[]⟩, .int .i64 0, .int .i64 0, .int .i64 0, .int .i64 0, .int .i64 0, .int .i64 0, .int .i64 0, .int .i64 0] 38))) := by
  have := Blk.alloc (w.alloc (.cells #[.string x.want.copy, .int .i64 x.want.version, .string x.want.hold, .int .i64 x.want.pull, .int .i64 x.want.start, .int .i64 x.want.dies, .int .i64 x.want.grace, .int .i64 x.state, .int .i64 x.left, .int .i64 x.falls, .int .i64 x.until_] 38)) #[.string ⟨#[]⟩, .int .i64 0, .string ⟨#[]⟩, .int .i64 0, .int .i64 0, .int .i64 0, .int .i64 0, .int .i64 0, .int .i64 0, .int .i64 0, .int .i64 0] 38
  show Blk _ _ _ _
  simpa using this
 have hB3 : Below w.heap.size w ((w.alloc (.cells #[.string x.want.copy, .int .i64 x.want.version, .string x.want.hold, .int .i64 x.want.pull, .int .i64 x.want.start, .int .i64 x.want.dies, .int .i64 x.want.grace, .int .i64 x.state, .int .i64 x.left, .int .i64 x.falls, .int .i64 x.until_] 38)).alloc (.cells #[.string ⟨#[]⟩, .int .i64 0, .string ⟨#[]⟩, .int .i64 0, .int .i64 0, .int .i64 0, .int .i64 0, .int .i64 0, .int .i64 0, .int .i64 0, .int .i64 0] 38)) := by go_grown
 have HX : Hid (Blk w.heap.size #[.string x.want.copy, .int .i64 x.want.version, .string x.want.hold, .int .i64 x.want.pull, .int .i64 x.want.start, .int .i64 x.want.dies, .int .i64 x.want.grace, .int .i64 x.state, .int .i64 x.left, .int .i64 x.falls, .int .i64 x.until_] 38 ((w.alloc (.cells #[.string x.want.copy, .int .i64 x.want.version, .string x.want.hold, .int .i64 x.want.pull, .int .i64 x.want.start, .int .i64 x.want.dies, .int .i64 x.want.grace, .int .i64 x.state, .int .i64 x.left, .int .i64 x.falls, .int .i64 x.until_] 38)).alloc (.cells #[.string ⟨#[]⟩, .int .i64 0, .string ⟨#[]⟩, .int .i64 0, .int .i64 0, .int .i64 0, .int .i64 0, .int .i64 0, .int .i64 0, .int .i64 0, .int .i64 0] 38))) := HX0.below ((Below.refl _ _).alloc (Nat.le_refl _) _) HX0.lt
 clear HX0
 go_enter Try.func21, Try.ntmps21
 go_upto_region 1 with fail
 generalize (w.alloc (Obj.cells #[.string x.want.copy, .int .i64 x.want.version, .string x.want.hold, .int .i64 x.want.pull, .int .i64 x.want.start, .int .i64 x.want.dies, .int .i64 x.want.grace, .int .i64 x.state, .int .i64 x.left, .int .i64 x.falls, .int .i64 x.until_] 38)).alloc (Obj.cells #[.string ⟨#[]⟩, .int .i64 0, .string ⟨#[]⟩, .int .i64 0, .int .i64 0, .int .i64 0, .int .i64 0, .int .i64 0, .int .i64 0, .int .i64 0, .int .i64 0] 38) = w3 at *
 have k7 : w3.cell? ⟨w.heap.size, 7, none⟩ = some (.int .i64 x.state) := HX.out.cell rfl
 have f7 : w3.frozen? ⟨w.heap.size, 7, none⟩ = false := HX.out.frozen _
 have HX4 : Hid (Blk w.heap.size #[.string x.want.copy, .int .i64 x.want.version, .string x.want.hold, .int .i64 x.want.pull, .int .i64 x.want.start, .int .i64 x.want.dies, .int .i64 x.want.grace, .int .i64 2, .int .i64 x.left, .int .i64 x.falls, .int .i64 x.until_] 38 (w3.setCell ⟨w.heap.size, 7, none⟩ (.int .i64 2))) := HX.out.set 7 _
 have k8 : (w3.setCell ⟨w.heap.size, 7, none⟩ (.int .i64 2)).cell? ⟨w.heap.size, 8, none⟩ = some (.int .i64 x.left) := HX4.out.cell rfl
 have f8 : (w3.setCell ⟨w.heap.size, 7, none⟩ (.int .i64 2)).frozen? ⟨w.heap.size, 8, none⟩ = false := HX4.out.frozen _
 have HX5 : Hid (Blk w.heap.size #[.string x.want.copy, .int .i64 x.want.version, .string x.want.hold, .int .i64 x.want.pull, .int .i64 x.want.start, .int .i64 x.want.dies, .int .i64 x.want.grace, .int .i64 2, .int .i64 0, .int .i64 x.falls, .int .i64 x.until_] 38 ((w3.setCell ⟨w.heap.size, 7, none⟩ (.int .i64 2)).setCell ⟨w.heap.size, 8, none⟩ (.int .i64 0))) := HX4.out.set 8 _
 have HZ5 : Hid (Blk (w.heap.size + 1) #[.string ⟨#[]⟩, .int .i64 0, .string ⟨#[]⟩, .int .i64 0, .int .i64 0, .int .i64 0, .int .i64 0, .int .i64 0, .int .i64 0, .int .i64 0, .int .i64 0] 38 ((w3.setCell ⟨w.heap.size, 7, none⟩ (.int .i64 2)).setCell ⟨w.heap.size, 8, none⟩ (.int .i64 0))) := (HZ.out.other (a := ⟨w.heap.size, 7, none⟩) (show w.heap.size + 1 ≠ w.heap.size by omega) _).other (a := ⟨w.heap.size, 8, none⟩) (show w.heap.size + 1 ≠ w.heap.size by omega) _
 have hB5 : Below w.heap.size w ((w3.setCell ⟨w.heap.size, 7, none⟩ (.int .i64 2)).setCell ⟨w.heap.size, 8, none⟩ (.int .i64 0)) := (hB3.setCell (p := ⟨w.heap.size, 7, none⟩) (Nat.le_refl _) _).setCell (p := ⟨w.heap.size, 8, none⟩) (Nat.le_refl _) _
 clear HX HZ hB3 HX4
 go_upto_region 2 with fail
 clear k7 f7 k8 f8
 generalize (w3.setCell ⟨w.heap.size, 7, none⟩ (.int .i64 2)).setCell ⟨w.heap.size, 8, none⟩ (.int .i64 0) = w5 at *
 have HTS := Hid.intro HZ5.out.there
 obtain ⟨w8, HW8⟩ : ∃ w8, Hid (w8 = w5.setCells (w.heap.size + 1) 0 [.string x.want.copy, .int .i64 x.want.version, .string x.want.hold, .int .i64 x.want.pull, .int .i64 x.want.start, .int .i64 x.want.dies, .int .i64 x.want.grace, .int .i64 2, .int .i64 0, .int .i64 x.falls, .int .i64 x.until_]) := ⟨_, rfl⟩
 have HR8 : Hid (w8.rangeAt (w.heap.size + 1) 0 [.string x.want.copy, .int .i64 x.want.version, .string x.want.hold, .int .i64 x.want.pull, .int .i64 x.want.start, .int .i64 x.want.dies, .int .i64 x.want.grace, .int .i64 2, .int .i64 0, .int .i64 x.falls, .int .i64 x.until_]) := by
  show World.rangeAt _ _ _ _
  rw [HW8.out]
  exact World.rangeAt_setCells_same _ _ _ _ HTS.out
 have hB8 : Below w.heap.size w w8 := by
  rw [HW8.out]
  exact below_setCells (by omega) _ _ _ hB5
 clear hB5 HZ5
 go_wp2_with (first | (refine wpList_load_mid rfl 38 _ rfl w.heap.size 0 rfl [.string x.want.copy, .int .i64 x.want.version, .string x.want.hold, .int .i64 x.want.pull, .int .i64 x.want.start, .int .i64 x.want.dies, .int .i64 x.want.grace, .int .i64 2, .int .i64 0, .int .i64 x.falls, .int .i64 x.until_] _ HX5.out.rangeA Try.underlying38 rfl isz_Rn ?_) | (refine wpList_store_to rfl 38 _ _ rfl (w.heap.size + 1) 0 #[.string x.want.copy, .int .i64 x.want.version, .string x.want.hold, .int .i64 x.want.pull, .int .i64 x.want.start, .int .i64 x.want.dies, .int .i64 x.want.grace, .int .i64 2, .int .i64 0, .int .i64 x.falls, .int .i64 x.until_] rfl rfl HTS.out isz_Rn (by simp [Value.oneCell']) w8 HW8.out ?_))
 exact bodyPost_ret (results_cell_mid rfl _ _ (w.heap.size + 1) [.string x.want.copy, .int .i64 x.want.version, .string x.want.hold, .int .i64 x.want.pull, .int .i64 x.want.start, .int .i64 x.want.dies, .int .i64 x.want.grace, .int .i64 2, .int .i64 0, .int .i64 x.falls, .int .i64 x.until_] _ rfl HR8.out Try.underlying38 rfl isz_Rn) rfl ⟨rfl, hB8⟩

def mixK (xs : List Rn) (k : Nat) : List Rn := (xs.take k).map killR ++ xs.drop k

theorem mixK_len (xs : List Rn) (k : Nat) : (mixK xs k).length = xs.length := by simp [mixK]; omega
theorem mixK_at {xs : List Rn} {k : Nat} {x : Rn} (h : xs[k]? = some x) : (mixK xs k)[k]? = some x := by
 have hl := lt_of_some h
 unfold mixK
 rw [List.getElem?_append_right (by simp; omega)]
 simp only [List.length_map, List.length_take, List.getElem?_drop]
 rw [show k + (k - min k xs.length) = k by omega]
 exact h
theorem mixK_step {xs : List Rn} {k : Nat} {x : Rn} (h : xs[k]? = some x) : (mixK xs k).set k (killR x) = mixK xs (k + 1) := by
 have hl := lt_of_some h
 unfold mixK
 rw [List.set_append_right _ _ (by simp; omega)]
 simp only [List.length_map, List.length_take]
 rw [show k - min k xs.length = 0 by omega, List.drop_eq_getElem_cons hl, List.set_cons_zero, List.take_add_one, h]
 simp
theorem mixK_end (xs : List Rn) : mixK xs xs.length = xs.map killR := by simp [mixK]

set_option maxHeartbeats 4000000 in
set_option maxRecDepth 100000 in
theorem eaK_any (xs : List Rn) (b ob cap lo : Nat) (w : World) (hin : SliceC RnC 11 lo w (some ⟨b, ob, none⟩) xs) (hsm : xs.length ≤ 1048576) :
  Calls Try.prog 19 #[.slice (some ⟨b, ob, none⟩) xs.length cap, .func (.func 21) #[] #[]] w fun e w' => ∃ g q, e = .returned (.slice (some ⟨g, 0, none⟩) xs.length q) ∧ w'.ownsRow w.heap.size 38 11 (.slice (some ⟨g, 0, none⟩) xs.length q) xs.length (rvRn (xs.map killR)) ∧ Below w.heap.size w w' := by
 have HI := Hid.intro hin
 clear hin
 go_enter Try.func19, Try.ntmps19
 go_wp2_with fail
 refine (clRn_any xs b ob cap lo _ HI.out hsm).mono ?_
 rintro e w1 ⟨g, q, rfl, hO1, hB1⟩
 have HO1 := Hid.intro hO1
 clear hO1
 go_wp2_with fail
 go_loopw [11] (fun i wr => ∃ k : Nat, k ≤ xs.length ∧ i = .int .i64 k ∧ Hid (wr.ownsRow w.heap.size 38 11 (.slice (some ⟨g, 0, none⟩) xs.length q) xs.length (rvRn (mixK xs k))) ∧ Below w.heap.size w wr) (fun i _ => xs.length - (intOf i).toNat)
 case atStart => exact ⟨0, Nat.zero_le _, rfl, by show World.ownsRow _ _ _ _ _ _ _; rw [show mixK xs 0 = xs by simp [mixK]]; exact HO1.out, hB1⟩
 case round =>
  clear HO1 hB1
  obtain ⟨k, hk, rfl, HO, hB⟩ := hrel
  by_cases hlt : k < xs.length
  ·obtain ⟨x, hx⟩ : ∃ x, xs[k]? = some x := ⟨xs[k], List.getElem?_eq_getElem hlt⟩
   have HXX := Hid.intro hx
   have hgl : g < wr.heap.size := (HO.out.lt g rfl).2
   have hgb : w.heap.size ≤ g := rowb HO.out
   have HRA : Hid (wr.rangeAt g (k * 11) [.string x.want.copy, .int .i64 x.want.version, .string x.want.hold, .int .i64 x.want.pull, .int .i64 x.want.start, .int .i64 x.want.dies, .int .i64 x.want.grace, .int .i64 x.state, .int .i64 x.left, .int .i64 x.falls, .int .i64 x.until_]) := fun j v hv => by
    have hj : j < 11 := lt_of_some hv
    have h1 := HO.out.cellAt (k * 11 + j) (by omega)
    rw [rvRn_at _ k x j (mixK_at hx) hj] at h1
    exact h1.trans hv
   clear hx
   have hza : Blk wr.heap.size #[.string ⟨#[]⟩, .int .i64 0, .string ⟨#[]⟩, .int .i64 0, .int .i64 0, .int .i64 0, .int .i64 0, .int .i64 0, .int .i64 0, .int .i64 0, .int .i64 0] 38 (wr.alloc (Obj.cells #[.string ⟨#[]⟩, .int .i64 0, .string ⟨#[]⟩, .int .i64 0, .int .i64 0, .int .i64 0, .int .i64 0, .int .i64 0, .int .i64 0, .int .i64 0, .int .i64 0] 38)) := Blk.alloc _ _ _
   have HTS : Hid ((wr.alloc (Obj.cells #[.string ⟨#[]⟩, .int .i64 0, .string ⟨#[]⟩, .int .i64 0, .int .i64 0, .int .i64 0, .int .i64 0, .int .i64 0, .int .i64 0, .int .i64 0, .int .i64 0] 38)).there wr.heap.size 0 11) := hza.there
   obtain ⟨w4, HW4⟩ : ∃ w4, Hid (w4 = (wr.alloc (Obj.cells #[.string ⟨#[]⟩, .int .i64 0, .string ⟨#[]⟩, .int .i64 0, .int .i64 0, .int .i64 0, .int .i64 0, .int .i64 0, .int .i64 0, .int .i64 0, .int .i64 0] 38)).setCells wr.heap.size 0 [.string x.want.copy, .int .i64 x.want.version, .string x.want.hold, .int .i64 x.want.pull, .int .i64 x.want.start, .int .i64 x.want.dies, .int .i64 x.want.grace, .int .i64 x.state, .int .i64 x.left, .int .i64 x.falls, .int .i64 x.until_]) := ⟨_, rfl⟩
   have HK4 : Hid (Blk wr.heap.size #[.string x.want.copy, .int .i64 x.want.version, .string x.want.hold, .int .i64 x.want.pull, .int .i64 x.want.start, .int .i64 x.want.dies, .int .i64 x.want.grace, .int .i64 x.state, .int .i64 x.left, .int .i64 x.falls, .int .i64 x.until_] 38 w4) := by
    show Blk _ _ _ _
    rw [HW4.out]
    exact hza.setAll #[.string x.want.copy, .int .i64 x.want.version, .string x.want.hold, .int .i64 x.want.pull, .int .i64 x.want.start, .int .i64 x.want.dies, .int .i64 x.want.grace, .int .i64 x.state, .int .i64 x.left, .int .i64 x.falls, .int .i64 x.until_] rfl
   have hbx : Below wr.heap.size wr w4 := by
    rw [HW4.out]
    exact below_setCells (Nat.le_refl _) _ _ _ ((Below.refl _ wr).alloc (Nat.le_refl _) _)
   have hB4 : Below w.heap.size w w4 := hB.trans (hbx.mono hB.size)
   have HO4 := Hid.intro (ownsRow_below HO.out hbx)
   clear hza hbx HO hB
   go_upto_region 5 with (first | (refine wpList_load_mid rfl 38 _ rfl g (k * 11) (by first | rfl | (simp [go_sem]; done)) [.string x.want.copy, .int .i64 x.want.version, .string x.want.hold, .int .i64 x.want.pull, .int .i64 x.want.start, .int .i64 x.want.dies, .int .i64 x.want.grace, .int .i64 x.state, .int .i64 x.left, .int .i64 x.falls, .int .i64 x.until_] _ HRA.out Try.underlying38 rfl isz_Rn ?_) | (refine wpList_store_to rfl 38 _ _ rfl wr.heap.size 0 #[.string x.want.copy, .int .i64 x.want.version, .string x.want.hold, .int .i64 x.want.pull, .int .i64 x.want.start, .int .i64 x.want.dies, .int .i64 x.want.grace, .int .i64 x.state, .int .i64 x.left, .int .i64 x.falls, .int .i64 x.until_] rfl rfl HTS.out isz_Rn (by simp [Value.oneCell']) w4 HW4.out ?_))
   clear HRA HTS HW4
   go_wp2_with (first | (refine wpList_load_mid rfl 38 _ rfl wr.heap.size 0 (by first | rfl | (simp [go_sem]; done)) [.string x.want.copy, .int .i64 x.want.version, .string x.want.hold, .int .i64 x.want.pull, .int .i64 x.want.start, .int .i64 x.want.dies, .int .i64 x.want.grace, .int .i64 x.state, .int .i64 x.left, .int .i64 x.falls, .int .i64 x.until_] _ HK4.out.rangeA Try.underlying38 rfl isz_Rn ?_))
   refine (killed_any x _).mono ?_
   rintro e w5 ⟨rfl, hb5⟩
   have HO5 := Hid.intro (ownsRow_below HO4.out hb5)
   have hB5 := hB4.trans (hb5.mono hB4.size)
   clear hb5 hB4 HO4 HK4
   have HT5 : Hid (w5.there g (k * 11) 11) := ownsRow_there HO5.out (by rw [rvRn_len, mixK_len]; omega)
   obtain ⟨w6, HW6⟩ : ∃ w6, Hid (w6 = w5.setCells g (k * 11) (rcRn (killR x))) := ⟨_, rfl⟩
   have HO6 : Hid (w6.ownsRow w.heap.size 38 11 (.slice (some ⟨g, 0, none⟩) xs.length q) xs.length (rvRn (mixK xs (k + 1)))) := by
    show World.ownsRow _ _ _ _ _ _ _
    rw [HW6.out, ← mixK_step HXX.out, ← rvRn_set _ k x _ (mixK_at HXX.out)]
    exact ownsRow_run _ _ _ _ HO5.out
   have hB6 : Below w.heap.size w w6 := by
    rw [HW6.out]
    exact below_setCells hgb _ _ _ hB5
   unfold rcRn killR at HW6
   clear hB5 HO5
   have i0 : (0 : Int) ≤ (k : Int) := by omega
   have i1 : (k : Int) < (xs.length : Int) := by omega
   go_wp2_with (first | (refine wpList_store_to rfl 38 _ _ rfl g (k * 11) #[.string x.want.copy, .int .i64 x.want.version, .string x.want.hold, .int .i64 x.want.pull, .int .i64 x.want.start, .int .i64 x.want.dies, .int .i64 x.want.grace, .int .i64 2, .int .i64 0, .int .i64 x.falls, .int .i64 x.until_] (by first | rfl | (simp [go_sem]; done)) rfl HT5.out isz_Rn (by simp [Value.oneCell']) w6 HW6.out ?_))
   go_roundw
   case rel => exact ⟨k + 1, by omega, by go_num, HO6, hB6⟩
   case measure => simp [intOf]; omega
  ·have hke : k = xs.length := by omega
   subst hke
   rw [mixK_end] at HO
   go_wp2_with fail
   go_ret
   exact ⟨g, q, rfl, HO.out, hB⟩

theorem eagK_any (xs : List Rn) (a : Option Addr) (cap lo : Nat) (w : World) (hin : SliceC RnC 11 lo w a xs) (hsm : xs.length ≤ 1048576) (ha : ∀ b o s, a = some ⟨b, o, s⟩ → s = none) :
  Calls Try.prog 19 #[.slice a xs.length cap, .func (.func 21) #[] #[]] w fun e w' => ∃ b q, e = .returned (.slice b (xs.map killR).length q) ∧ w'.ownsRow w.heap.size 38 11 (.slice b (xs.map killR).length q) (xs.map killR).length (rvRn (xs.map killR)) ∧ Below w.heap.size w w' := by
 rw [List.length_map]
 cases a with
 | none =>
  have hx : xs = [] := by
   rcases hin.2 with h | ⟨b, o, e, _⟩
   ·exact h
   ·cases e
  subst hx
  exact (eanRn_any _ cap w).mono fun e w' h => ⟨none, 0, h.1, World.ownsRow_nil _ _ _ _, h.2⟩
 | some ad =>
  obtain ⟨b, o, s⟩ := ad
  obtain rfl := ha b o s rfl
  exact (eaK_any xs b o cap lo w hin hsm).mono fun e w' ⟨g, q, h1, h2, h3⟩ => ⟨some ⟨g, 0, none⟩, q, h1, h2, h3⟩

end Go.Proofs.Ytnifmiacobfplaa
