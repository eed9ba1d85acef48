import Derived.Test.YtnggdpjfmpjlhaaGreatJ32
namespace Go.Proofs.YtnggdpjfmpjlhaaGreat
open Go.RowKit Go.WideMaps Go.Maps

def fwB (x : Sbk) : Bool := decide (x.services.length ≤ 8) && decide (x.copies.length ≤ 200) && decide (x.berths.length ≤ 6)

set_option maxHeartbeats 2000000 in
set_option maxRecDepth 100000 in
theorem sfew_any (x : Sbk) (a1 : Option Addr) (c1 : Nat) (a2 : Option Addr) (c2 : Nat) (a3 : Option Addr) (c3 : Nat) (w : World) :
  Calls Tryz.prog 53 #[.agg #[.int .i64 x.now, .slice a1 x.services.length c1, .slice a2 x.copies.length c2, .slice a3 x.berths.length c3]] w fun e w' => e = .returned (.bool (fwB x)) ∧ Below w.heap.size w w' := by
 have hB1 : Below w.heap.size w (w.alloc (Obj.cells #[.int .i64 x.now, .slice a1 x.services.length c1, .slice a2 x.copies.length c2, .slice a3 x.berths.length c3] 34)) := by go_grown
 have HK : Hid (Blk w.heap.size #[.int .i64 x.now, .slice a1 x.services.length c1, .slice a2 x.copies.length c2, .slice a3 x.berths.length c3] 34 (w.alloc (Obj.cells #[.int .i64 x.now, .slice a1 x.services.length c1, .slice a2 x.copies.length c2, .slice a3 x.berths.length c3] 34))) := Blk.alloc _ _ _
 go_enter Tryz.func53, Tryz.ntmps53
 go_upto_region 1 with fail
 generalize w.alloc (Obj.cells #[.int .i64 x.now, .slice a1 x.services.length c1, .slice a2 x.copies.length c2, .slice a3 x.berths.length c3] 34) = w1 at *
 have k0 : w1.cell? ⟨w.heap.size, 0, none⟩ = some (.int .i64 x.now) := HK.out.cell rfl
 have k1 : w1.cell? ⟨w.heap.size, 1, none⟩ = some (.slice a1 x.services.length c1) := HK.out.cell rfl
 have k2 : w1.cell? ⟨w.heap.size, 2, none⟩ = some (.slice a2 x.copies.length c2) := HK.out.cell rfl
 have k3 : w1.cell? ⟨w.heap.size, 3, none⟩ = some (.slice a3 x.berths.length c3) := HK.out.cell rfl
 clear HK
 by_cases h1 : x.services.length ≤ 8
 case neg =>
  have hi : (8 : Int) < (x.services.length : Int) := by omega
  have HE : Hid (fwB x = false) := by show _ = _; unfold fwB; rw [decide_eq_false h1]; rfl
  have hd : decide ((x.services.length : Int) ≤ 8) = false := by simp; omega
  go_wp2_with fail
  go_ret
  exact ⟨ret_bool HE.out.symm, hB1⟩
 have g1 : (x.services.length : Int) ≤ 8 := by omega
 by_cases h2 : x.copies.length ≤ 200
 case neg =>
  have hi : (200 : Int) < (x.copies.length : Int) := by omega
  have HE : Hid (fwB x = false) := by show _ = _; unfold fwB; rw [decide_eq_false h2]; simp
  have hd : decide ((x.copies.length : Int) ≤ 200) = false := by simp; omega
  go_wp2_with fail
  go_ret
  exact ⟨ret_bool HE.out.symm, hB1⟩
 have g2 : (x.copies.length : Int) ≤ 200 := by omega
 by_cases h3 : x.berths.length ≤ 6
 case neg =>
  have hi : (6 : Int) < (x.berths.length : Int) := by omega
  have HE : Hid (fwB x = false) := by show _ = _; unfold fwB; rw [decide_eq_false h3]; simp
  have hd : decide ((x.berths.length : Int) ≤ 6) = false := by simp; omega
  go_wp2_with fail
  go_ret
  exact ⟨ret_bool HE.out.symm, hB1⟩
 have g3 : (x.berths.length : Int) ≤ 6 := by omega
 have HE : Hid (fwB x = true) := by show _ = _; unfold fwB; rw [decide_eq_true h1, decide_eq_true h2, decide_eq_true h3]; rfl
 go_wp2_with fail
 go_ret
 exact ⟨ret_bool HE.out.symm, hB1⟩

def bkR (x : Sbk) (p : Nat) : List Chk := [(78, #[], inR x.now 0 1000000), (79, #[], svK x p), (80, #[], btK x p), (81, #[], cpK x p)]
abbrev bkV : Array Value := #[.func (.func 78) #[] #[], .func (.func 79) #[] #[], .func (.func 80) #[] #[], .func (.func 81) #[] #[]]
theorem bkR_enters (x : Sbk) (p : Nat) : Enters (bkR x p) := by
 intro k r hk
 have h := List.mem_of_getElem? hk
 simp only [bkR, List.mem_cons, List.not_mem_nil, or_false] at h
 rcases h with rfl | rfl | rfl | rfl
 ·exact enters_of Tryz.func78 (by kernel_rfl) rfl
 ·exact enters_of Tryz.func79 (by kernel_rfl) rfl
 ·exact enters_of Tryz.func80 (by kernel_rfl) rfl
 ·exact enters_of Tryz.func81 (by kernel_rfl) rfl
theorem bkR_in {g p : Nat} {w : World} {t : TypeId} (x : Sbk) (h : Blk g bkV t w) : ChkIn g (bkR x p) w := by
 intro k r hk
 have hk8 : k < 4 := (List.getElem?_eq_some_iff.1 hk).1
 have hc : k = 0 ∨ k = 1 ∨ k = 2 ∨ k = 3 := by omega
 rcases hc with rfl | rfl | rfl | rfl
 ·cases hk; exact h.cell rfl
 ·cases hk; exact h.cell rfl
 ·cases hk; exact h.cell rfl
 ·cases hk; exact h.cell rfl

theorem svK_iff (x : Sbk) (p : Nat) : svK x p = true ↔ (∀ (j : Nat) y, x.services[j]? = some y → svB y x.now = true) ∧ (∀ (j : Nat) u v, x.services[j]? = some u → x.services[j + 1]? = some v → Op.bytesLess u.name.toList v.name.toList = true) := by
 unfold svK
 rw [Bool.and_eq_true, all_at, show x.services.length = (x.services.map (·.name)).length by simp, asc_iff]
 simp only [svR_all]
 constructor
 ·rintro ⟨h1, h2⟩
  exact ⟨h2, fun j u v hu hv => h1 j _ _ (by rw [List.getElem?_map, hu]; rfl) (by rw [List.getElem?_map, hv]; rfl)⟩
 ·rintro ⟨h1, h2⟩
  refine ⟨fun j u v hu hv => ?_, h1⟩
  rw [List.getElem?_map] at hu hv
  obtain ⟨a, ha, rfl⟩ := Option.map_eq_some_iff.1 hu
  obtain ⟨b, hb, rfl⟩ := Option.map_eq_some_iff.1 hv
  exact h2 j a b ha hb

theorem btK_iff (x : Sbk) (p : Nat) : btK x p = true ↔ (∀ (j : Nat) y, x.berths[j]? = some y → snB y.name = true) ∧ (∀ (j : Nat) u v, x.berths[j]? = some u → x.berths[j + 1]? = some v → Op.bytesLess u.name.toList v.name.toList = true) := by
 unfold btK
 rw [Bool.and_eq_true, all_at, show x.berths.length = (x.berths.map (·.name)).length by simp, asc_iff]
 simp only [btR_all]
 constructor
 ·rintro ⟨h1, h2⟩
  exact ⟨h2, fun j u v hu hv => h1 j _ _ (by rw [List.getElem?_map, hu]; rfl) (by rw [List.getElem?_map, hv]; rfl)⟩
 ·rintro ⟨h1, h2⟩
  refine ⟨fun j u v hu hv => ?_, h1⟩
  rw [List.getElem?_map] at hu hv
  obtain ⟨a, ha, rfl⟩ := Option.map_eq_some_iff.1 hu
  obtain ⟨b, hb, rfl⟩ := Option.map_eq_some_iff.1 hv
  exact h2 j a b ha hb

theorem cpK_iff (x : Sbk) (p : Nat) : cpK x p = true ↔ (∀ (j : Nat) y, x.copies[j]? = some y → cpB x y = true) ∧ (∀ (j : Nat) u v, x.copies[j]? = some u → x.copies[j + 1]? = some v → ahB u v = true) := by
 unfold cpK
 rw [Bool.and_eq_true, all_at, ac_iff]
 simp only [cpR_all]
 exact ⟨fun h => ⟨h.2, h.1⟩, fun h => ⟨h.2, h.1⟩⟩

theorem svB_next {x : Sbk} (h : ∀ (j : Nat) y, x.services[j]? = some y → svB y x.now = true) : ∀ v ∈ x.services, 1 ≤ v.next ∧ v.next ≤ 1000000 := by
 intro v hv
 obtain ⟨j, hj⟩ := List.getElem?_of_mem hv
 have h9 := h j v hj
 unfold svB at h9
 simp [inR] at h9
 exact ⟨by omega, by omega⟩

theorem bk_iff (x : Sbk) (p : Nat) (hf : fwB x = true) : allR (bkR x p) = true ↔ SVal x := by
 have h3 : x.services.length ≤ 8 ∧ x.copies.length ≤ 200 ∧ x.berths.length ≤ 6 := by
  unfold fwB at hf
  simp at hf
  exact ⟨hf.1.1, hf.1.2, hf.2⟩
 have h4 : allR (bkR x p) = true ↔ (inR x.now 0 1000000 = true ∧ svK x p = true ∧ btK x p = true ∧ cpK x p = true) := by
  simp [allR, bkR]
 rw [h4, svK_iff, btK_iff, cpK_iff]
 constructor
 ·rintro ⟨h0, ⟨h1, h2⟩, ⟨h5, h6⟩, ⟨h7, h8⟩⟩
  exact ⟨h0, h3.1, h3.2.1, h3.2.2, h1, h2, h5, h6, h7, h8⟩
 ·intro h
  exact ⟨h.now, ⟨h.s1, h.s2⟩, ⟨h.b1, h.b2⟩, ⟨h.c1, h.c2⟩⟩

theorem sval_few {x : Sbk} (h : SVal x) : fwB x = true := by
 unfold fwB
 rw [decide_eq_true h.l1, decide_eq_true h.l2, decide_eq_true h.l3]
 rfl

def FvRes (x : Sbk) (a1 : Option Addr) (c1 : Nat) (a2 : Option Addr) (c2 : Nat) (a3 : Option Addr) (c3 : Nat) (lo : Nat) (w : World) (e : Ending) (w' : World) : Prop := ((¬ SVal x ∧ e = .returned (.tuple #[.pointer none, .bool false])) ∨ (SVal x ∧ ∃ p m n : Nat, e = .returned (.tuple #[.pointer (some ⟨p, 0, none⟩), .bool true]) ∧ FndS x a1 c1 a2 c2 a3 c3 p m n lo w')) ∧ Below w.heap.size w w'

set_option maxHeartbeats 1000000 in
set_option maxRecDepth 100000 in
theorem bkChecks_any (w : World) :
  Calls Tryz.prog 56 #[] w fun e w' => e = .returned (.slice (some ⟨w.heap.size, 0, none⟩) 4 4) ∧ Blk w.heap.size bkV 136 w' ∧ Below w.heap.size w w' := by
 go_enter Tryz.func56, Tryz.ntmps56
 go_wp2_with fail
 go_ret
 exact ⟨rfl, Blk.alloc _ _ _, by go_grown⟩

set_option maxHeartbeats 4000000 in
set_option maxRecDepth 100000 in
theorem findValid_any (x : Sbk) (a1 : Option Addr) (c1 : Nat) (a2 : Option Addr) (c2 : Nat) (a3 : Option Addr) (c3 : Nat) (lo : Nat) (w : World) (n1 : SliceC SsvC 13 lo w a1 x.services) (n2 : SliceC ScpC 7 lo w a2 x.copies) (n3 : SliceC SbtC 2 lo w a3 x.berths) (hw : NumOk x) :
  Calls Tryz.prog 21 #[.agg #[.int .i64 x.now, .slice a1 x.services.length c1, .slice a2 x.copies.length c2, .slice a3 x.berths.length c3]] w fun e w' => FvRes x a1 c1 a2 c2 a3 c3 lo w e w' := by
 have HN1 := Hid.intro n1
 have HN2 := Hid.intro n2
 have HN3 := Hid.intro n3
 have HW := Hid.intro hw
 clear n1 n2 n3 hw
 have HK1 : Hid (Blk w.heap.size #[.int .i64 x.now, .slice a1 x.services.length c1, .slice a2 x.copies.length c2, .slice a3 x.berths.length c3] 34 (w.alloc (Obj.cells #[.int .i64 x.now, .slice a1 x.services.length c1, .slice a2 x.copies.length c2, .slice a3 x.berths.length c3] 34))) := Blk.alloc _ _ _
 have hB1 : Below w.heap.size w (w.alloc (Obj.cells #[.int .i64 x.now, .slice a1 x.services.length c1, .slice a2 x.copies.length c2, .slice a3 x.berths.length c3] 34)) := by go_grown
 go_enter Tryz.func21, Tryz.ntmps21
 go_upto_region 1 with fail
 generalize w.alloc (Obj.cells #[.int .i64 x.now, .slice a1 x.services.length c1, .slice a2 x.copies.length c2, .slice a3 x.berths.length c3] 34) = w1 at *
 go_wp2_with (refine wpList_load_mid rfl 34 _ rfl w.heap.size 0 (by first | rfl | (simp [go_sem]; done)) [.int .i64 x.now, .slice a1 x.services.length c1, .slice a2 x.copies.length c2, .slice a3 x.berths.length c3] _ HK1.out.rangeA Tryz.underlying34 rfl isz_Sbk ?_)
 refine (sfew_any x a1 c1 a2 c2 a3 c3 _).mono ?_
 rintro e w2 ⟨rfl, hb2⟩
 have HK2 := Hid.intro (HK1.out.below hb2 HK1.out.lt)
 have hB2 : Below w.heap.size w w2 := hB1.trans (hb2.mono hB1.size)
 clear hb2 HK1 hB1
 cases hf : fwB x with
 | false =>
  have HE : Hid (¬ SVal x) := fun h => by rw [sval_few h] at hf; cases hf
  clear hf
  go_wp2_with fail
  exact bodyPost_ret (results_tmp2 rfl _ _ _) rfl ⟨.inl ⟨HE.out, rfl⟩, hB2⟩
 | true =>
  have HBI : Hid (∀ p, allR (bkR x p) = true ↔ SVal x) := fun p => bk_iff x p hf
  have h3 : x.services.length ≤ 8 ∧ x.copies.length ≤ 200 ∧ x.berths.length ≤ 6 := by
   unfold fwB at hf
   simp at hf
   exact ⟨hf.1.1, hf.1.2, hf.2⟩
  obtain ⟨h31, h32, h33⟩ := h3
  clear hf
  go_wp2_with (refine wpList_load_mid rfl 34 _ rfl w.heap.size 0 (by first | rfl | (simp [go_sem]; done)) [.int .i64 x.now, .slice a1 x.services.length c1, .slice a2 x.copies.length c2, .slice a3 x.berths.length c3] _ HK2.out.rangeA Tryz.underlying34 rfl isz_Sbk ?_)
  refine (sfind_any x a1 c1 a2 c2 a3 c3 lo _ (HN1.out.below SsvC.holds hB2 (Nat.le_refl _)) (HN2.out.below ScpC.holds hB2 (Nat.le_refl _)) (HN3.out.below SbtC.holds hB2 (Nat.le_refl _)) h31 h32 h33 HW.out).mono ?_
  rintro e w3 ⟨p, m, n, rfl, hP, hO, hb3⟩
  have hB3 : Below w.heap.size w w3 := hB2.trans (hb3.mono hB2.size)
  have HF3 : Hid (FndS x a1 c1 a2 c2 a3 c3 p m n lo w3) := ⟨hP, hO, HN1.out.below SsvC.holds hB3 (Nat.le_refl _), HN2.out.below ScpC.holds hB3 (Nat.le_refl _), HN3.out.below SbtC.holds hB3 (Nat.le_refl _)⟩
  clear hP hO hb3 hB2 HK2
  go_wp2_with fail
  refine (bkChecks_any _).mono ?_
  rintro e w4 ⟨rfl, hC4, hb4⟩
  have HF4 := Hid.intro (HF3.out.below hb4)
  have hB4 : Below w.heap.size w w4 := hB3.trans (hb4.mono hB3.size)
  have HC4 := Hid.intro hC4
  generalize w3.heap.size = g at *
  clear HF3 hb4 hB3 hC4
  go_wp2_with fail
  refine (allF_any p (bkR x p) g 4 w4 (by show 4 ≤ 8; omega) ?_ (bkR_enters x p) (bkR_in x HC4.out) HC4.out.lt).mono ?_
  ·intro k r hk hprev v hv
   have HFv := HF4.out.below hv
   have hk8 : k < 4 := (List.getElem?_eq_some_iff.1 hk).1
   have hc : k = 0 ∨ k = 1 ∨ k = 2 ∨ k = 3 := by omega
   rcases hc with rfl | rfl | rfl | rfl
   ·cases hk
    refine (nowOk_any x a1 c1 a2 c2 a3 c3 p m n lo v HFv).mono ?_
    rintro e w' ⟨rfl, rfl⟩
    exact ⟨rfl, Below.refl _ _⟩
   ·cases hk
    exact fservicesOk_any x a1 c1 a2 c2 a3 c3 p m n lo v HFv (by omega)
   ·cases hk
    exact fberthsOk_any x a1 c1 a2 c2 a3 c3 p m n lo v HFv (by omega)
   ·cases hk
    have hs := (svK_iff x p).1 (hprev 1 _ (by omega) rfl)
    exact fcopiesOk_any x a1 c1 a2 c2 a3 c3 p m n lo v HFv (by omega) (asc_uniq hs.2) (svB_next hs.1)
  ·rintro e w5 ⟨rfl, hb5⟩
   have HF5 := Hid.intro (HF4.out.below hb5)
   have hB5 : Below w.heap.size w w5 := hB4.trans (hb5.mono hB4.size)
   clear hb5 HF4 hB4
   cases ha : allR (bkR x p) with
   | false =>
    have HE : Hid (¬ SVal x) := fun h => by rw [(HBI.out p).2 h] at ha; cases ha
    clear ha
    go_wp2_with fail
    exact bodyPost_ret (results_tmp2 rfl _ _ _) rfl ⟨.inl ⟨HE.out, rfl⟩, hB5⟩
   | true =>
    have HE : Hid (SVal x) := (HBI.out p).1 ha
    clear ha
    go_wp2_with fail
    exact bodyPost_ret (results_tmp2 rfl _ _ _) rfl ⟨.inr ⟨HE.out, p, m, n, rfl, HF5.out⟩, hB5⟩

end Go.Proofs.YtnggdpjfmpjlhaaGreat

namespace Go.Proofs.YtnggdpjfmpjlhaaGreat
open Go.RowKit

set_option maxHeartbeats 1000000 in
theorem cmpSvc_any (x : Scp) (s : ByteArray) (w : World) :
  Calls Tryz.prog 116 #[.agg #[.string x.service, .int .i64 x.number, .int .i64 x.version, .int .i64 x.image, .int .i64 x.state, .bool x.ending, .string x.berth], .string s] w fun e w' => e = .returned (.int .i64 (Lib.compareBytes x.service.data.toList s.data.toList)) ∧ Below w.heap.size w w' := by
 have hB1 : Below w.heap.size w (w.alloc (Obj.cells #[.string x.service, .int .i64 x.number, .int .i64 x.version, .int .i64 x.image, .int .i64 x.state, .bool x.ending, .string x.berth] 87)) := by go_grown
 have HK : Hid (Blk w.heap.size #[.string x.service, .int .i64 x.number, .int .i64 x.version, .int .i64 x.image, .int .i64 x.state, .bool x.ending, .string x.berth] 87 (w.alloc (Obj.cells #[.string x.service, .int .i64 x.number, .int .i64 x.version, .int .i64 x.image, .int .i64 x.state, .bool x.ending, .string x.berth] 87))) := Blk.alloc _ _ _
 go_enter Tryz.func116, Tryz.ntmps116
 go_upto_region 1 with fail
 generalize w.alloc (Obj.cells #[.string x.service, .int .i64 x.number, .int .i64 x.version, .int .i64 x.image, .int .i64 x.state, .bool x.ending, .string x.berth] 87) = w1 at *
 have k0 : w1.cell? ⟨w.heap.size, 0, none⟩ = some (.string x.service) := HK.out.cell rfl
 clear HK
 go_wp2_with (go_at_call 117; refine (strCmp_any _ _ _).mono ?_; rintro e w' ⟨rfl, rfl⟩)
 go_ret
 exact ⟨rfl, hB1⟩

def BsRes (xs : List Scp) (s : ByteArray) (w : World) (e : Ending) (w' : World) : Prop := ∃ (i : Nat) (q : Bool), e = .returned (.tuple #[.int .i64 i, .bool q]) ∧ i ≤ xs.length ∧ (∀ (j : Nat) u, j < i → xs[j]? = some u → Lib.compareBytes u.service.data.toList s.data.toList < 0) ∧ (∀ (j : Nat) u, i ≤ j → xs[j]? = some u → 0 ≤ Lib.compareBytes u.service.data.toList s.data.toList) ∧ Below w.heap.size w w'

set_option maxHeartbeats 4000000 in
set_option maxRecDepth 100000 in
theorem bsCopies_any (xs : List Scp) (s : ByteArray) (a : Option Addr) (cap lo : Nat) (w : World) (hin : SliceC ScpC 7 lo w a xs) (hsm : xs.length ≤ 1048576) (hmono : ∀ (j k : Nat) u v, j ≤ k → xs[j]? = some u → xs[k]? = some v → Lib.compareBytes v.service.data.toList s.data.toList < 0 → Lib.compareBytes u.service.data.toList s.data.toList < 0) :
  Calls Tryz.prog 115 #[.slice a xs.length cap, .string s, .func (.func 116) #[] #[]] w fun e w' => BsRes xs s w e w' := by
 have HI := Hid.intro hin
 have HM := Hid.intro hmono
 clear hin hmono
 go_enter Tryz.func115, Tryz.ntmps115
 go_wp2_with fail
 go_loopw [9, 10] (fun s9 s10 wr => ∃ l h : Nat, s9 = .int .i64 l ∧ s10 = .int .i64 h ∧ l ≤ h ∧ h ≤ xs.length ∧ Hid (∀ (j : Nat) u, j < l → xs[j]? = some u → Lib.compareBytes u.service.data.toList s.data.toList < 0) ∧ Hid (∀ (j : Nat) u, h ≤ j → xs[j]? = some u → 0 ≤ Lib.compareBytes u.service.data.toList s.data.toList) ∧ Below w.heap.size w wr) (fun s9 s10 _ => (intOf s10).toNat - (intOf s9).toNat)
 case atStart => exact ⟨0, xs.length, rfl, rfl, Nat.zero_le _, Nat.le_refl _, fun j u h => by omega, fun j u h hx => by have := lt_of_some hx; omega, Below.refl _ _⟩
 case round =>
  obtain ⟨l, h, rfl, rfl, hlh, hhn, hA, hC, hB⟩ := hrel
  by_cases hlt : l < h
  ·obtain ⟨y, hy⟩ : ∃ y, xs[(l + h) / 2]? = some y := ⟨xs[(l + h) / 2], List.getElem?_eq_getElem (by omega)⟩
   have hml : (l + h) / 2 < xs.length := by omega
   have hm1 : l ≤ (l + h) / 2 ∧ (l + h) / 2 < h := by omega
   have HWM : Hid (((l : Int) + (h : Int)) / 2 = (((l + h) / 2 : Nat) : Int)) := by show _ = _; omega
   obtain ⟨b, o, ea, _, hbl, hc⟩ := (HI.out.below ScpC.holds hB (Nat.le_refl _)).at hy
   subst ea
   have HRY := Hid.intro (rngScp hc)
   have HYY := Hid.intro hy
   clear hc hy
   go_upto_region 5 with fail
   try rw [HWM.out]
   clear HWM
   obtain ⟨hm1, hm2⟩ := hm1
   have HLH := Hid.intro hlt
   generalize (l + h) / 2 = m at *
   have i1 : (m : Int) < (xs.length : Int) := by omega
   go_wp2_with (refine wpList_load_mid rfl 87 _ rfl b (o + m * 7) (by first | rfl | (simp [go_sem]; done)) [.string y.service, .int .i64 y.number, .int .i64 y.version, .int .i64 y.image, .int .i64 y.state, .bool y.ending, .string y.berth] _ HRY.out Tryz.underlying87 rfl isz_Scp ?_)
   refine (cmpSvc_any y s _).mono ?_
   rintro e w3 ⟨rfl, hb3⟩
   have hB3 : Below w.heap.size w w3 := hB.trans (hb3.mono hB.size)
   clear hb3 hB HRY
   generalize hcy : Lib.compareBytes y.service.data.toList s.data.toList = cy at *
   by_cases hn : cy < 0
   ·have HA2 : Hid (∀ (j : Nat) u, j < m + 1 → xs[j]? = some u → Lib.compareBytes u.service.data.toList s.data.toList < 0) := fun j u hj hu => HM.out j m u y (by omega) hu HYY.out (by rw [hcy]; exact hn)
    clear hcy hA
    go_wp2_with fail
    go_roundw
    case rel => exact ⟨m + 1, h, by go_num, rfl, by omega, hhn, HA2, hC, hB3⟩
    case measure => simp [intOf]; omega
   ·have hn0 : 0 ≤ cy := by omega
    have HC2 : Hid (∀ (j : Nat) u, m ≤ j → xs[j]? = some u → 0 ≤ Lib.compareBytes u.service.data.toList s.data.toList) := fun j u hj hu => by
     by_cases h9 : Lib.compareBytes u.service.data.toList s.data.toList < 0
     ·have := HM.out m j y u hj HYY.out hu h9
      omega
     ·omega
    have hn1 : decide (cy < 0) = false := by simpa using hn
    clear hcy hn hC
    go_wp2_with fail
    go_roundw
    case rel => exact ⟨l, m, rfl, rfl, by omega, by omega, hA, HC2, hB3⟩
    case measure => simp [intOf]; omega
  ·obtain rfl : l = h := by omega
   by_cases hn : l < xs.length
   ·obtain ⟨y, hy⟩ : ∃ y, xs[l]? = some y := ⟨xs[l], List.getElem?_eq_getElem hn⟩
    obtain ⟨b, o, ea, _, hbl, hc⟩ := (HI.out.below ScpC.holds hB (Nat.le_refl _)).at hy
    subst ea
    have HRY := Hid.intro (rngScp hc)
    clear hc hy
    have i1 : (l : Int) < (xs.length : Int) := by omega
    obtain ⟨q0, q1, q2, q3, q4, q5, q6⟩ : wr.cell? ⟨b, o + l * 7, none⟩ = some (.string y.service) ∧ wr.cell? ⟨b, o + l * 7 + 1, none⟩ = some (.int .i64 y.number) ∧ wr.cell? ⟨b, o + l * 7 + 2, none⟩ = some (.int .i64 y.version) ∧ wr.cell? ⟨b, o + l * 7 + 3, none⟩ = some (.int .i64 y.image) ∧ wr.cell? ⟨b, o + l * 7 + 4, none⟩ = some (.int .i64 y.state) ∧ wr.cell? ⟨b, o + l * 7 + 5, none⟩ = some (.bool y.ending) ∧ wr.cell? ⟨b, o + l * 7 + 6, none⟩ = some (.string y.berth) := ⟨HRY.out 0 _ rfl, HRY.out 1 _ rfl, HRY.out 2 _ rfl, HRY.out 3 _ rfl, HRY.out 4 _ rfl, HRY.out 5 _ rfl, HRY.out 6 _ rfl⟩
    clear HRY
    go_wp2_with fail
    refine (cmpSvc_any y s _).mono ?_
    rintro e w3 ⟨rfl, hb3⟩
    have hB3 : Below w.heap.size w w3 := hB.trans (hb3.mono hB.size)
    clear hb3 hB q0 q1 q2 q3 q4 q5 q6
    go_wp2_with fail
    exact bodyPost_ret (results_tmp2 rfl _ _ _) rfl ⟨l, _, rfl, hhn, hA.out, hC.out, hB3⟩
   ·have i1 : ¬ (l : Int) < (xs.length : Int) := by omega
    go_wp2_with fail
    exact bodyPost_ret (results_tmp2 rfl _ _ _) rfl ⟨l, _, rfl, hhn, hA.out, hC.out, hB⟩

theorem asc_mono {xs : List Scp} (h : ∀ (j : Nat) u v, xs[j]? = some u → xs[j + 1]? = some v → ahB u v = true) (s : ByteArray) : ∀ (j k : Nat) u v, j ≤ k → xs[j]? = some u → xs[k]? = some v → Lib.compareBytes v.service.data.toList s.data.toList < 0 → Lib.compareBytes u.service.data.toList s.data.toList < 0 := by
 have hs : ∀ u v : Scp, ahB u v = true → Op.bytesLess u.service.data.toList v.service.data.toList = true ∨ u.service.data.toList = v.service.data.toList := by
  intro u v huv
  unfold ahB at huv
  rw [ByteArray.toList_eq, ByteArray.toList_eq] at huv
  simp only [Bool.or_eq_true, Bool.and_eq_true, beq_iff_eq] at huv
  rcases huv with h1 | h1
  ·exact .inl h1
  ·exact .inr h1.1
 have hlt : ∀ a b : List UInt8, Lib.compareBytes a b < 0 ↔ Op.bytesLess a b = true := by
  intro a b
  rcases cmpL_cases a b with ⟨e1, e2, _, _⟩ | ⟨e1, e2, _, _⟩ | ⟨e1, e2, _, _⟩ <;> rw [e1, e2] <;> simp
 have step : ∀ (d j : Nat) u v, xs[j]? = some u → xs[j + d]? = some v → Lib.compareBytes v.service.data.toList s.data.toList < 0 → Lib.compareBytes u.service.data.toList s.data.toList < 0 := by
  intro d
  induction d with
  | zero =>
   intro j u v h1 h2 h3
   have : u = v := Option.some.inj (h1.symm.trans h2)
   rw [this]
   exact h3
  | succ d ih =>
   intro j u v h1 h2 h3
   have hd : j + d < xs.length := by have := lt_of_some h2; omega
   have h4 : xs[j + d]? = some xs[j + d] := List.getElem?_eq_getElem hd
   refine ih j u _ h1 h4 ?_
   have h5 := hs _ _ (h (j + d) _ _ h4 h2)
   rw [hlt] at h3 ⊢
   rcases h5 with h5 | h5
   ·exact bl_tr _ _ _ h5 h3
   ·rw [h5]; exact h3
 intro j k u v hjk hu hv h3
 exact step (k - j) j u v hu (by rw [show j + (k - j) = k by omega]; exact hv) h3

end Go.Proofs.YtnggdpjfmpjlhaaGreat
