/-
  What is asked of copies and services where a book may be done, one by one, by the program. Made by mksd1.py.
-/
import Derived.Test.YtfbmljdlkgiliaaGreatSdp
import Derived.Test.YtfbmljdlkgiliaaGreatSon
namespace Go.Proofs.YtfbmljdlkgiliaaGreat
open Go.RowKit

set_option maxHeartbeats 4000000 in
set_option maxRecDepth 100000 in
theorem isLive_any (c : Scp) (w : World) : Calls Tryz.prog 69 #[.agg #[.string c.service, .int .i64 c.number, .int .i64 c.version, .int .i64 c.image, .int .i64 c.state, .bool c.ending, .string c.berth]] w fun e w' => e = .returned (.bool (lvC c)) ∧ Below w.heap.size w w' := by
  have hb : Below w.heap.size w (w.alloc (Obj.cells #[.string c.service, .int .i64 c.number, .int .i64 c.version, .int .i64 c.image, .int .i64 c.state, .bool c.ending, .string c.berth] 70)) := by go_grown
  have HC : Hid (Blk w.heap.size #[.string c.service, .int .i64 c.number, .int .i64 c.version, .int .i64 c.image, .int .i64 c.state, .bool c.ending, .string c.berth] 70 (w.alloc (Obj.cells #[.string c.service, .int .i64 c.number, .int .i64 c.version, .int .i64 c.image, .int .i64 c.state, .bool c.ending, .string c.berth] 70))) := Blk.alloc _ _ _
  go_enter Tryz.func69, Tryz.ntmps69
  go_upto_region 1 with fail
  generalize w.alloc (Obj.cells #[.string c.service, .int .i64 c.number, .int .i64 c.version, .int .i64 c.image, .int .i64 c.state, .bool c.ending, .string c.berth] 70) = w1 at *
  have k5 : w1.cell? ⟨w.heap.size, 5, none⟩ = some (.bool c.ending) := HC.out.cell rfl
  go_wp2_with fail
  go_ret
  exact ⟨rfl, hb⟩

set_option maxHeartbeats 4000000 in
set_option maxRecDepth 100000 in
theorem isGone_any (v : Ssv) (w : World) : Calls Tryz.prog 72 #[.agg #[.string v.name, .int .i64 v.version, .bool v.gone, .int .i64 v.image, .int .i64 v.want, .int .i64 v.down, .int .i64 v.over, .int .i64 v.next, .int .i64 v.per, .int .i64 v.least, .int .i64 v.most, .int .i64 v.load, .int .i64 v.cool]] w fun e w' => e = .returned (.bool v.gone) ∧ Below w.heap.size w w' := by
  have hb : Below w.heap.size w (w.alloc (Obj.cells #[.string v.name, .int .i64 v.version, .bool v.gone, .int .i64 v.image, .int .i64 v.want, .int .i64 v.down, .int .i64 v.over, .int .i64 v.next, .int .i64 v.per, .int .i64 v.least, .int .i64 v.most, .int .i64 v.load, .int .i64 v.cool] 46)) := by go_grown
  have HC : Hid (Blk w.heap.size #[.string v.name, .int .i64 v.version, .bool v.gone, .int .i64 v.image, .int .i64 v.want, .int .i64 v.down, .int .i64 v.over, .int .i64 v.next, .int .i64 v.per, .int .i64 v.least, .int .i64 v.most, .int .i64 v.load, .int .i64 v.cool] 46 (w.alloc (Obj.cells #[.string v.name, .int .i64 v.version, .bool v.gone, .int .i64 v.image, .int .i64 v.want, .int .i64 v.down, .int .i64 v.over, .int .i64 v.next, .int .i64 v.per, .int .i64 v.least, .int .i64 v.most, .int .i64 v.load, .int .i64 v.cool] 46))) := Blk.alloc _ _ _
  go_enter Tryz.func72, Tryz.ntmps72
  go_upto_region 1 with fail
  generalize w.alloc (Obj.cells #[.string v.name, .int .i64 v.version, .bool v.gone, .int .i64 v.image, .int .i64 v.want, .int .i64 v.down, .int .i64 v.over, .int .i64 v.next, .int .i64 v.per, .int .i64 v.least, .int .i64 v.most, .int .i64 v.load, .int .i64 v.cool] 46) = w1 at *
  have k2 : w1.cell? ⟨w.heap.size, 2, none⟩ = some (.bool v.gone) := HC.out.cell rfl
  go_wp2_with fail
  go_ret
  exact ⟨rfl, hb⟩

set_option maxHeartbeats 4000000 in
set_option maxRecDepth 100000 in
theorem isLeftOver_any (x : Sbk) (a1 : Option Addr) (c1 : Nat) (b2 o2 c2 : Nat) (a3 : Option Addr) (c3 : Nat) (p m n lo : Nat) (c : Scp) (w : World) (hF : FndS x a1 c1 (some ⟨b2, o2, none⟩) c2 a3 c3 p m n lo w) (hz : c.service.size ≤ maxLen) (hu : ∀ (j k : Nat) u v, x.services[j]? = some u → x.services[k]? = some v → u.name = v.name → j = k) :
    Calls Tryz.prog 74 #[.pointer (some ⟨p, 0, none⟩), .agg #[.string c.service, .int .i64 c.number, .int .i64 c.version, .int .i64 c.image, .int .i64 c.state, .bool c.ending, .string c.berth]] w fun e w' => e = .returned (.bool (loB x c)) ∧ Below w.heap.size w w' := by
  have HF0 := Hid.intro hF
  have HSZ := Hid.intro hz
  have HU := Hid.intro hu
  clear hF hz hu
  have hb : Below w.heap.size w (w.alloc (Obj.cells #[.string c.service, .int .i64 c.number, .int .i64 c.version, .int .i64 c.image, .int .i64 c.state, .bool c.ending, .string c.berth] 70)) := by go_grown
  have HC : Hid (Blk w.heap.size #[.string c.service, .int .i64 c.number, .int .i64 c.version, .int .i64 c.image, .int .i64 c.state, .bool c.ending, .string c.berth] 70 (w.alloc (Obj.cells #[.string c.service, .int .i64 c.number, .int .i64 c.version, .int .i64 c.image, .int .i64 c.state, .bool c.ending, .string c.berth] 70))) := Blk.alloc _ _ _
  go_enter Tryz.func74, Tryz.ntmps74
  go_upto_region 1 with fail
  generalize w.alloc (Obj.cells #[.string c.service, .int .i64 c.number, .int .i64 c.version, .int .i64 c.image, .int .i64 c.state, .bool c.ending, .string c.berth] 70) = w1 at *
  have k0 : w1.cell? ⟨w.heap.size, 0, none⟩ = some (.string c.service) := HC.out.cell rfl
  have k1 : w1.cell? ⟨w.heap.size, 1, none⟩ = some (.int .i64 c.number) := HC.out.cell rfl
  have k2 : w1.cell? ⟨w.heap.size, 2, none⟩ = some (.int .i64 c.version) := HC.out.cell rfl
  have k3 : w1.cell? ⟨w.heap.size, 3, none⟩ = some (.int .i64 c.image) := HC.out.cell rfl
  have k4 : w1.cell? ⟨w.heap.size, 4, none⟩ = some (.int .i64 c.state) := HC.out.cell rfl
  have k5 : w1.cell? ⟨w.heap.size, 5, none⟩ = some (.bool c.ending) := HC.out.cell rfl
  have k6 : w1.cell? ⟨w.heap.size, 6, none⟩ = some (.string c.berth) := HC.out.cell rfl
  clear HC
  cases hen : c.ending with
  | true =>
    have HE : Hid (loB x c = true) := by show _ = _; unfold loB; rw [hen]; rfl
    rw [hen] at k5
    clear hen
    go_wp2_with fail
    go_ret
    exact ⟨ret_bool HE.out.symm, hb⟩
  | false =>
    have HE : Hid (loB x c = (svO x c).gone) := by show _ = _; unfold loB; rw [hen]; rfl
    have hcall := serviceOf_any x a1 c1 b2 o2 c2 a3 c3 p m n lo c w1 (HF0.out.below hb) HSZ.out HU.out
    rw [hen] at k5 hcall
    clear hen
    go_wp2_with fail
    refine hcall.mono ?_
    rintro e w4 ⟨rfl, hb4⟩
    have hB4 := hb.trans (hb4.mono hb.size)
    clear hcall hb4 hb k0 k1 k2 k3 k4 k5 k6 HF0 HSZ HU
    generalize svO x c = u at *
    have hfl : ∀ w, (Instr.field 46 (.agg #[.string u.name, .int .i64 u.version, .bool u.gone, .int .i64 u.image, .int .i64 u.want, .int .i64 u.down, .int .i64 u.over, .int .i64 u.next, .int .i64 u.per, .int .i64 u.least, .int .i64 u.most, .int .i64 u.load, .int .i64 u.cool]) 2).run Tryz.prog w = .ok (.bool u.gone) w := fun _ => by kernel_rfl
    go_wp2_with fail
    go_ret
    exact ⟨ret_bool HE.out.symm, hB4⟩

set_option maxHeartbeats 4000000 in
set_option maxRecDepth 100000 in
theorem isToBeReplaced_any (x : Sbk) (a1 : Option Addr) (c1 : Nat) (b2 o2 c2 : Nat) (a3 : Option Addr) (c3 : Nat) (p m n lo : Nat) (c : Scp) (w : World) (hF : FndS x a1 c1 (some ⟨b2, o2, none⟩) c2 a3 c3 p m n lo w) (hz : c.service.size ≤ maxLen) (hzb : c.berth.size ≤ maxLen) (hu : ∀ (j k : Nat) u v, x.services[j]? = some u → x.services[k]? = some v → u.name = v.name → j = k) (hub : ∀ (j k : Nat) u v, x.berths[j]? = some u → x.berths[k]? = some v → u.name = v.name → j = k) :
    Calls Tryz.prog 77 #[.pointer (some ⟨p, 0, none⟩), .agg #[.string c.service, .int .i64 c.number, .int .i64 c.version, .int .i64 c.image, .int .i64 c.state, .bool c.ending, .string c.berth]] w fun e w' => e = .returned (.bool (rpB x c)) ∧ Below w.heap.size w w' := by
  have HF0 := Hid.intro hF
  have HSZ := Hid.intro hz
  have HSB := Hid.intro hzb
  have HU := Hid.intro hu
  have HUB := Hid.intro hub
  clear hF hz hu hub hzb
  have hb : Below w.heap.size w (w.alloc (Obj.cells #[.string c.service, .int .i64 c.number, .int .i64 c.version, .int .i64 c.image, .int .i64 c.state, .bool c.ending, .string c.berth] 70)) := by go_grown
  have HC : Hid (Blk w.heap.size #[.string c.service, .int .i64 c.number, .int .i64 c.version, .int .i64 c.image, .int .i64 c.state, .bool c.ending, .string c.berth] 70 (w.alloc (Obj.cells #[.string c.service, .int .i64 c.number, .int .i64 c.version, .int .i64 c.image, .int .i64 c.state, .bool c.ending, .string c.berth] 70))) := Blk.alloc _ _ _
  go_enter Tryz.func77, Tryz.ntmps77
  go_upto_region 1 with fail
  generalize w.alloc (Obj.cells #[.string c.service, .int .i64 c.number, .int .i64 c.version, .int .i64 c.image, .int .i64 c.state, .bool c.ending, .string c.berth] 70) = w1 at *
  refine wp_region_held_drew (S := fun wy => FndS x a1 c1 (some ⟨b2, o2, none⟩) c2 a3 c3 p m n lo wy ∧ Blk w.heap.size #[.string c.service, .int .i64 c.number, .int .i64 c.version, .int .i64 c.image, .int .i64 c.state, .bool c.ending, .string c.berth] 70 wy) (by kernel_rfl) ⟨(HF0.out.below hb).below (Below.refl _ _).drew, HC.out.drew⟩ (fun hS => ?_)
  have hB2 : Below w.heap.size w w1.drew := hb.drew
  clear HF0 HC hb
  generalize w1.drew = w2 at *
  refine wpAnyH_take (i := 0) (oi := { dst := some 5, op := _, type := _, pos := _, after := _, guard := none }) (v := .pointer (some ⟨w.heap.size, 3, none⟩)) rfl (by kernel_rfl) (by kernel_rfl) (by kernel_rfl) (fun _ _ _ h => h) (Or.inl ⟨by rfl, ?_⟩) hS ?_
  · intro wy hy
    clear hy
    go_simp
  simp only [Act.put, List.setIfInBounds_toArray, List.set_cons_zero, List.set_cons_succ]
  refine wpAnyH_take (i := 1) (oi := { dst := some 6, op := _, type := _, pos := _, after := _, guard := none }) (v := .int .i64 c.image) rfl (by kernel_rfl) (by kernel_rfl) (by kernel_rfl) (fun _ _ _ h => h) (Or.inl ⟨by rfl, ?_⟩) hS ?_
  · intro wy hy
    have h0 : wy.cell? ⟨w.heap.size, 3, none⟩ = some (.int .i64 c.image) := hy.2.cell rfl
    clear hy
    go_simp
  simp only [Act.put, List.setIfInBounds_toArray, List.set_cons_zero, List.set_cons_succ]
  refine wpAnyH_take (i := 2) (oi := { dst := some 7, op := _, type := _, pos := _, after := _, guard := none }) (v := .pointer (some ⟨p, 0, none⟩)) rfl (by kernel_rfl) (by kernel_rfl) (by kernel_rfl) (fun _ _ _ h => h) (Or.inl ⟨by rfl, ?_⟩) hS ?_
  · intro wy hy
    clear hy
    go_simp
  simp only [Act.put, List.setIfInBounds_toArray, List.set_cons_zero, List.set_cons_succ]
  refine wpAnyH_take (i := 3) (oi := { dst := some 8, op := _, type := _, pos := _, after := _, guard := none }) (v := .agg #[.string c.service, .int .i64 c.number, .int .i64 c.version, .int .i64 c.image, .int .i64 c.state, .bool c.ending, .string c.berth]) rfl (by kernel_rfl) (by kernel_rfl) (by kernel_rfl) (fun _ _ _ h => h) (yieldsIf_load_mid (by rfl) _ _ rfl w.heap.size (0) rfl [.string c.service, .int .i64 c.number, .int .i64 c.version, .int .i64 c.image, .int .i64 c.state, .bool c.ending, .string c.berth] _ (fun _ h => h.2.rangeA) Tryz.underlying70 rfl isz_Scp) hS ?_
  simp only [Act.put, List.setIfInBounds_toArray, List.set_cons_zero, List.set_cons_succ]
  refine wpAnyH_ready (rs := [4]) (by kernel_rfl) (by simp) (AllReadyH.cons (o := { dst := some 9, op := _, type := _, pos := _, after := _, guard := none }) rfl (fun K hK => ?_) AllReadyH.nil)
  go_simp
  refine (serviceOf_any x a1 c1 b2 o2 c2 a3 c3 p m n lo c _ hS.1 HSZ.out HU.out).mono ?_
  rintro e w3 ⟨rfl, hb3⟩
  have hB3 := hB2.trans (hb3.mono hB2.size)
  clear hB2
  refine hK.out _ _ ⟨hS.1.below hb3, hS.2.below hb3 hS.2.lt⟩ (fun hS => ?_)
  clear hK K
  obtain ⟨u, HUE⟩ : ∃ u, Hid (svO x c = u) := ⟨_, rfl⟩
  rw [HUE.out]
  refine wpAnyH_take (i := 5) (oi := { dst := some 10, op := _, type := _, pos := _, after := _, guard := none }) (v := .int .i64 u.image) rfl (by kernel_rfl) (by kernel_rfl) (by kernel_rfl) (fun _ _ _ h => h) (Or.inl ⟨by rfl, ?_⟩) hS ?_
  · intro wy hy
    clear hy
    (go_simp; kernel_rfl)
  simp only [Act.put, List.setIfInBounds_toArray, List.set_cons_zero, List.set_cons_succ]
  obtain ⟨t, HT⟩ : ∃ t, Hid ((c.image != u.image) = t) := ⟨_, rfl⟩
  refine wpAnyH_take (i := 6) (oi := { dst := some 11, op := _, type := _, pos := _, after := _, guard := none }) (v := .bool t) rfl (by kernel_rfl) (by kernel_rfl) (by kernel_rfl) (fun _ _ _ h => h) (Or.inl ⟨by rfl, ?_⟩) hS ?_
  · intro wy hy
    clear hy
    (have h9 := HT.out; go_simp)
  simp only [Act.put, List.setIfInBounds_toArray, List.set_cons_zero, List.set_cons_succ]
  refine wpAnyH_take (i := 7) (oi := { dst := some 12, op := _, type := _, pos := _, after := _, guard := none }) (v := .bool t) rfl (by kernel_rfl) (by kernel_rfl) (by kernel_rfl) (fun _ _ _ h => h) (Or.inl ⟨by rfl, ?_⟩) hS ?_
  · intro wy hy
    clear hy
    go_simp
  simp only [Act.put, List.setIfInBounds_toArray, List.set_cons_zero, List.set_cons_succ]
  cases t with
  | true =>
    have HE : Hid (rpB x c = true) := by show _ = _; unfold rpB; rw [HUE.out, HT.out]; rfl
    refine wpAnyH_take (i := 8) (oi := { dst := some 13, op := _, type := _, pos := _, after := _, guard := some (7, false) }) (v := undef) rfl (by kernel_rfl) (by kernel_rfl) (by kernel_rfl) (fun _ _ _ h => h) (Or.inr ⟨by rfl, rfl⟩) hS ?_
    simp only [Act.put, List.setIfInBounds_toArray, List.set_cons_zero, List.set_cons_succ]
    refine wpAnyH_take (i := 9) (oi := { dst := some 14, op := _, type := _, pos := _, after := _, guard := some (7, false) }) (v := undef) rfl (by kernel_rfl) (by kernel_rfl) (by kernel_rfl) (fun _ _ _ h => h) (Or.inr ⟨by rfl, rfl⟩) hS ?_
    simp only [Act.put, List.setIfInBounds_toArray, List.set_cons_zero, List.set_cons_succ]
    refine wpAnyH_take (i := 10) (oi := { dst := some 15, op := _, type := _, pos := _, after := _, guard := some (7, false) }) (v := undef) rfl (by kernel_rfl) (by kernel_rfl) (by kernel_rfl) (fun _ _ _ h => h) (Or.inr ⟨by rfl, rfl⟩) hS ?_
    simp only [Act.put, List.setIfInBounds_toArray, List.set_cons_zero, List.set_cons_succ]
    refine wpAnyH_take (i := 11) (oi := { dst := some 16, op := _, type := _, pos := _, after := _, guard := some (7, false) }) (v := undef) rfl (by kernel_rfl) (by kernel_rfl) (by kernel_rfl) (fun _ _ _ h => h) (Or.inr ⟨by rfl, rfl⟩) hS ?_
    simp only [Act.put, List.setIfInBounds_toArray, List.set_cons_zero, List.set_cons_succ]
    refine wpAnyH_take (i := 12) (oi := { dst := some 17, op := _, type := _, pos := _, after := _, guard := none }) (v := .bool true) rfl (by kernel_rfl) (by kernel_rfl) (by kernel_rfl) (fun _ _ _ h => h) (Or.inl ⟨by rfl, ?_⟩) hS ?_
    · intro wy hy
      clear hy
      go_simp
    simp only [Act.put, List.setIfInBounds_toArray, List.set_cons_zero, List.set_cons_succ]
    refine wpAnyH_take (i := 13) (oi := { dst := some 4, op := _, type := _, pos := _, after := _, guard := none }) (v := .bool true) rfl (by kernel_rfl) (by kernel_rfl) (by kernel_rfl) (fun _ _ _ h => h) (Or.inl ⟨by rfl, ?_⟩) hS ?_
    · intro wy hy
      clear hy
      go_simp
    simp only [Act.put, List.setIfInBounds_toArray, List.set_cons_zero, List.set_cons_succ]
    refine wpAnyH_done (by kernel_rfl) ?_ _
    clear hS
    go_wp2_with fail
    go_ret
    exact ⟨ret_bool HE.out.symm, hB3⟩
  | false =>
    have HE : Hid (rpB x c = dnB x c.berth) := by show _ = _; unfold rpB; rw [HUE.out, HT.out]; rfl
    refine wpAnyH_take (i := 8) (oi := { dst := some 13, op := _, type := _, pos := _, after := _, guard := some (7, false) }) (v := .pointer (some ⟨p, 0, none⟩)) rfl (by kernel_rfl) (by kernel_rfl) (by kernel_rfl) (fun _ _ _ h => h) (Or.inl ⟨by rfl, ?_⟩) hS ?_
    · intro wy hy
      clear hy
      go_simp
    simp only [Act.put, List.setIfInBounds_toArray, List.set_cons_zero, List.set_cons_succ]
    refine wpAnyH_take (i := 9) (oi := { dst := some 14, op := _, type := _, pos := _, after := _, guard := some (7, false) }) (v := .pointer (some ⟨w.heap.size, 6, none⟩)) rfl (by kernel_rfl) (by kernel_rfl) (by kernel_rfl) (fun _ _ _ h => h) (Or.inl ⟨by rfl, ?_⟩) hS ?_
    · intro wy hy
      clear hy
      go_simp
    simp only [Act.put, List.setIfInBounds_toArray, List.set_cons_zero, List.set_cons_succ]
    refine wpAnyH_take (i := 10) (oi := { dst := some 15, op := _, type := _, pos := _, after := _, guard := some (7, false) }) (v := .string c.berth) rfl (by kernel_rfl) (by kernel_rfl) (by kernel_rfl) (fun _ _ _ h => h) (Or.inl ⟨by rfl, ?_⟩) hS ?_
    · intro wy hy
      have h0 : wy.cell? ⟨w.heap.size, 6, none⟩ = some (.string c.berth) := hy.2.cell rfl
      clear hy
      go_simp
    simp only [Act.put, List.setIfInBounds_toArray, List.set_cons_zero, List.set_cons_succ]
    refine wpAnyH_ready (rs := [11]) (by kernel_rfl) (by simp) (AllReadyH.cons (o := { dst := some 16, op := _, type := _, pos := _, after := _, guard := some (7, false) }) rfl (fun K hK => ?_) AllReadyH.nil)
    go_simp
    refine (drains_any2 x a1 c1 b2 o2 c2 a3 c3 p m n lo c.berth _ hS.1 HSB.out HUB.out).mono ?_
    rintro e w5 ⟨rfl, hb5⟩
    have hB5 := hB3.trans (hb5.mono hB3.size)
    refine hK.out _ _ ⟨hS.1.below hb5, hS.2.below hb5 hS.2.lt⟩ (fun hS => ?_)
    clear hK K
    refine wpAnyH_take (i := 12) (oi := { dst := some 17, op := _, type := _, pos := _, after := _, guard := none }) (v := .bool (dnB x c.berth)) rfl (by kernel_rfl) (by kernel_rfl) (by kernel_rfl) (fun _ _ _ h => h) (Or.inl ⟨by rfl, ?_⟩) hS ?_
    · intro wy hy
      clear hy
      go_simp
    simp only [Act.put, List.setIfInBounds_toArray, List.set_cons_zero, List.set_cons_succ]
    refine wpAnyH_take (i := 13) (oi := { dst := some 4, op := _, type := _, pos := _, after := _, guard := none }) (v := .bool (dnB x c.berth)) rfl (by kernel_rfl) (by kernel_rfl) (by kernel_rfl) (fun _ _ _ h => h) (Or.inl ⟨by rfl, ?_⟩) hS ?_
    · intro wy hy
      clear hy
      go_simp
    simp only [Act.put, List.setIfInBounds_toArray, List.set_cons_zero, List.set_cons_succ]
    refine wpAnyH_done (by kernel_rfl) ?_ _
    clear hS
    go_wp2_with fail
    go_ret
    exact ⟨ret_bool HE.out.symm, hB5⟩

set_option maxHeartbeats 4000000 in
set_option maxRecDepth 100000 in
theorem isOffLoad_any (v : Ssv) (w : World) (hN : SvNum v) :
    Calls Tryz.prog 27 #[.agg #[.string v.name, .int .i64 v.version, .bool v.gone, .int .i64 v.image, .int .i64 v.want, .int .i64 v.down, .int .i64 v.over, .int .i64 v.next, .int .i64 v.per, .int .i64 v.least, .int .i64 v.most, .int .i64 v.load, .int .i64 v.cool]] w fun e w' => e = .returned (.bool (ofB v)) ∧ Below w.heap.size w w' := by
  have HN := Hid.intro hN
  clear hN
  have hb : Below w.heap.size w (w.alloc (Obj.cells #[.string v.name, .int .i64 v.version, .bool v.gone, .int .i64 v.image, .int .i64 v.want, .int .i64 v.down, .int .i64 v.over, .int .i64 v.next, .int .i64 v.per, .int .i64 v.least, .int .i64 v.most, .int .i64 v.load, .int .i64 v.cool] 46)) := by go_grown
  have HC : Hid (Blk w.heap.size #[.string v.name, .int .i64 v.version, .bool v.gone, .int .i64 v.image, .int .i64 v.want, .int .i64 v.down, .int .i64 v.over, .int .i64 v.next, .int .i64 v.per, .int .i64 v.least, .int .i64 v.most, .int .i64 v.load, .int .i64 v.cool] 46 (w.alloc (Obj.cells #[.string v.name, .int .i64 v.version, .bool v.gone, .int .i64 v.image, .int .i64 v.want, .int .i64 v.down, .int .i64 v.over, .int .i64 v.next, .int .i64 v.per, .int .i64 v.least, .int .i64 v.most, .int .i64 v.load, .int .i64 v.cool] 46))) := Blk.alloc _ _ _
  go_enter Tryz.func27, Tryz.ntmps27
  go_upto_region 1 with fail
  generalize w.alloc (Obj.cells #[.string v.name, .int .i64 v.version, .bool v.gone, .int .i64 v.image, .int .i64 v.want, .int .i64 v.down, .int .i64 v.over, .int .i64 v.next, .int .i64 v.per, .int .i64 v.least, .int .i64 v.most, .int .i64 v.load, .int .i64 v.cool] 46) = w1 at *
  refine wp_region_held_drew (S := fun wy => Blk w.heap.size #[.string v.name, .int .i64 v.version, .bool v.gone, .int .i64 v.image, .int .i64 v.want, .int .i64 v.down, .int .i64 v.over, .int .i64 v.next, .int .i64 v.per, .int .i64 v.least, .int .i64 v.most, .int .i64 v.load, .int .i64 v.cool] 46 wy) (by kernel_rfl) HC.out.drew (fun hS => ?_)
  have hB2 : Below w.heap.size w w1.drew := hb.drew
  clear HC hb
  generalize w1.drew = w2 at *
  refine wpAnyH_take (i := 0) (oi := { dst := some 3, op := _, type := _, pos := _, after := _, guard := none }) (v := .pointer (some ⟨w.heap.size, 8, none⟩)) rfl (by kernel_rfl) (by kernel_rfl) (by kernel_rfl) (fun _ _ _ h => h) (Or.inl ⟨by rfl, ?_⟩) hS ?_
  · intro wy hy
    clear hy
    go_simp
  simp only [Act.put, List.setIfInBounds_toArray, List.set_cons_zero, List.set_cons_succ]
  refine wpAnyH_take (i := 1) (oi := { dst := some 4, op := _, type := _, pos := _, after := _, guard := none }) (v := .int .i64 v.per) rfl (by kernel_rfl) (by kernel_rfl) (by kernel_rfl) (fun _ _ _ h => h) (Or.inl ⟨by rfl, ?_⟩) hS ?_
  · intro wy hy
    have h0 : wy.cell? ⟨w.heap.size, 8, none⟩ = some (.int .i64 v.per) := hy.cell rfl
    clear hy
    go_simp
  simp only [Act.put, List.setIfInBounds_toArray, List.set_cons_zero, List.set_cons_succ]
  by_cases hp : 0 < v.per
  case neg =>
    have hp' : v.per ≤ 0 := by omega
    have HE : Hid (ofB v = false) := by show _ = _; unfold ofB; rw [decide_eq_false hp]; rfl
    refine wpAnyH_take (i := 2) (oi := { dst := some 5, op := _, type := _, pos := _, after := _, guard := none }) (v := .bool false) rfl (by kernel_rfl) (by kernel_rfl) (by kernel_rfl) (fun _ _ _ h => h) (Or.inl ⟨by rfl, ?_⟩) hS ?_
    · intro wy hy
      clear hy
      go_simp
    simp only [Act.put, List.setIfInBounds_toArray, List.set_cons_zero, List.set_cons_succ]
    refine wpAnyH_take (i := 3) (oi := { dst := some 6, op := _, type := _, pos := _, after := _, guard := none }) (v := .bool false) rfl (by kernel_rfl) (by kernel_rfl) (by kernel_rfl) (fun _ _ _ h => h) (Or.inl ⟨by rfl, ?_⟩) hS ?_
    · intro wy hy
      clear hy
      go_simp
    simp only [Act.put, List.setIfInBounds_toArray, List.set_cons_zero, List.set_cons_succ]
    refine wpAnyH_take (i := 4) (oi := { dst := some 7, op := _, type := _, pos := _, after := _, guard := some (3, true) }) (v := undef) rfl (by kernel_rfl) (by kernel_rfl) (by kernel_rfl) (fun _ _ _ h => h) (Or.inr ⟨by rfl, rfl⟩) hS ?_
    simp only [Act.put, List.setIfInBounds_toArray, List.set_cons_zero, List.set_cons_succ]
    refine wpAnyH_take (i := 5) (oi := { dst := some 8, op := _, type := _, pos := _, after := _, guard := some (3, true) }) (v := undef) rfl (by kernel_rfl) (by kernel_rfl) (by kernel_rfl) (fun _ _ _ h => h) (Or.inr ⟨by rfl, rfl⟩) hS ?_
    simp only [Act.put, List.setIfInBounds_toArray, List.set_cons_zero, List.set_cons_succ]
    refine wpAnyH_take (i := 6) (oi := { dst := some 9, op := _, type := _, pos := _, after := _, guard := some (3, true) }) (v := undef) rfl (by kernel_rfl) (by kernel_rfl) (by kernel_rfl) (fun _ _ _ h => h) (Or.inr ⟨by rfl, rfl⟩) hS ?_
    simp only [Act.put, List.setIfInBounds_toArray, List.set_cons_zero, List.set_cons_succ]
    refine wpAnyH_take (i := 7) (oi := { dst := some 10, op := _, type := _, pos := _, after := _, guard := some (3, true) }) (v := undef) rfl (by kernel_rfl) (by kernel_rfl) (by kernel_rfl) (fun _ _ _ h => h) (Or.inr ⟨by rfl, rfl⟩) hS ?_
    simp only [Act.put, List.setIfInBounds_toArray, List.set_cons_zero, List.set_cons_succ]
    refine wpAnyH_take (i := 8) (oi := { dst := some 11, op := _, type := _, pos := _, after := _, guard := some (3, true) }) (v := undef) rfl (by kernel_rfl) (by kernel_rfl) (by kernel_rfl) (fun _ _ _ h => h) (Or.inr ⟨by rfl, rfl⟩) hS ?_
    simp only [Act.put, List.setIfInBounds_toArray, List.set_cons_zero, List.set_cons_succ]
    refine wpAnyH_take (i := 9) (oi := { dst := some 12, op := _, type := _, pos := _, after := _, guard := some (3, true) }) (v := undef) rfl (by kernel_rfl) (by kernel_rfl) (by kernel_rfl) (fun _ _ _ h => h) (Or.inr ⟨by rfl, rfl⟩) hS ?_
    simp only [Act.put, List.setIfInBounds_toArray, List.set_cons_zero, List.set_cons_succ]
    refine wpAnyH_take (i := 10) (oi := { dst := some 13, op := _, type := _, pos := _, after := _, guard := some (9, false) }) (v := undef) rfl (by kernel_rfl) (by kernel_rfl) (by kernel_rfl) (fun _ _ _ h => h) (Or.inr ⟨by rfl, rfl⟩) hS ?_
    simp only [Act.put, List.setIfInBounds_toArray, List.set_cons_zero, List.set_cons_succ]
    refine wpAnyH_take (i := 11) (oi := { dst := some 14, op := _, type := _, pos := _, after := _, guard := some (9, false) }) (v := undef) rfl (by kernel_rfl) (by kernel_rfl) (by kernel_rfl) (fun _ _ _ h => h) (Or.inr ⟨by rfl, rfl⟩) hS ?_
    simp only [Act.put, List.setIfInBounds_toArray, List.set_cons_zero, List.set_cons_succ]
    refine wpAnyH_take (i := 12) (oi := { dst := some 15, op := _, type := _, pos := _, after := _, guard := some (9, false) }) (v := undef) rfl (by kernel_rfl) (by kernel_rfl) (by kernel_rfl) (fun _ _ _ h => h) (Or.inr ⟨by rfl, rfl⟩) hS ?_
    simp only [Act.put, List.setIfInBounds_toArray, List.set_cons_zero, List.set_cons_succ]
    refine wpAnyH_take (i := 13) (oi := { dst := some 16, op := _, type := _, pos := _, after := _, guard := some (3, true) }) (v := undef) rfl (by kernel_rfl) (by kernel_rfl) (by kernel_rfl) (fun _ _ _ h => h) (Or.inr ⟨by rfl, rfl⟩) hS ?_
    simp only [Act.put, List.setIfInBounds_toArray, List.set_cons_zero, List.set_cons_succ]
    refine wpAnyH_take (i := 14) (oi := { dst := some 17, op := _, type := _, pos := _, after := _, guard := none }) (v := .bool false) rfl (by kernel_rfl) (by kernel_rfl) (by kernel_rfl) (fun _ _ _ h => h) (Or.inl ⟨by rfl, ?_⟩) hS ?_
    · intro wy hy
      clear hy
      go_simp
    simp only [Act.put, List.setIfInBounds_toArray, List.set_cons_zero, List.set_cons_succ]
    refine wpAnyH_take (i := 15) (oi := { dst := some 2, op := _, type := _, pos := _, after := _, guard := none }) (v := .bool false) rfl (by kernel_rfl) (by kernel_rfl) (by kernel_rfl) (fun _ _ _ h => h) (Or.inl ⟨by rfl, ?_⟩) hS ?_
    · intro wy hy
      clear hy
      go_simp
    simp only [Act.put, List.setIfInBounds_toArray, List.set_cons_zero, List.set_cons_succ]
    refine wpAnyH_done (by kernel_rfl) ?_ _
    clear hS
    go_wp2_with fail
    go_ret
    exact ⟨ret_bool HE.out.symm, hB2⟩
  refine wpAnyH_take (i := 2) (oi := { dst := some 5, op := _, type := _, pos := _, after := _, guard := none }) (v := .bool true) rfl (by kernel_rfl) (by kernel_rfl) (by kernel_rfl) (fun _ _ _ h => h) (Or.inl ⟨by rfl, ?_⟩) hS ?_
  · intro wy hy
    clear hy
    go_simp
  simp only [Act.put, List.setIfInBounds_toArray, List.set_cons_zero, List.set_cons_succ]
  refine wpAnyH_take (i := 3) (oi := { dst := some 6, op := _, type := _, pos := _, after := _, guard := none }) (v := .bool true) rfl (by kernel_rfl) (by kernel_rfl) (by kernel_rfl) (fun _ _ _ h => h) (Or.inl ⟨by rfl, ?_⟩) hS ?_
  · intro wy hy
    clear hy
    go_simp
  simp only [Act.put, List.setIfInBounds_toArray, List.set_cons_zero, List.set_cons_succ]
  refine wpAnyH_take (i := 4) (oi := { dst := some 7, op := _, type := _, pos := _, after := _, guard := some (3, true) }) (v := .pointer (some ⟨w.heap.size, 4, none⟩)) rfl (by kernel_rfl) (by kernel_rfl) (by kernel_rfl) (fun _ _ _ h => h) (Or.inl ⟨by rfl, ?_⟩) hS ?_
  · intro wy hy
    clear hy
    go_simp
  simp only [Act.put, List.setIfInBounds_toArray, List.set_cons_zero, List.set_cons_succ]
  refine wpAnyH_take (i := 5) (oi := { dst := some 8, op := _, type := _, pos := _, after := _, guard := some (3, true) }) (v := .int .i64 v.want) rfl (by kernel_rfl) (by kernel_rfl) (by kernel_rfl) (fun _ _ _ h => h) (Or.inl ⟨by rfl, ?_⟩) hS ?_
  · intro wy hy
    have h0 : wy.cell? ⟨w.heap.size, 4, none⟩ = some (.int .i64 v.want) := hy.cell rfl
    clear hy
    go_simp
  simp only [Act.put, List.setIfInBounds_toArray, List.set_cons_zero, List.set_cons_succ]
  refine wpAnyH_take (i := 6) (oi := { dst := some 9, op := _, type := _, pos := _, after := _, guard := some (3, true) }) (v := .agg #[.string v.name, .int .i64 v.version, .bool v.gone, .int .i64 v.image, .int .i64 v.want, .int .i64 v.down, .int .i64 v.over, .int .i64 v.next, .int .i64 v.per, .int .i64 v.least, .int .i64 v.most, .int .i64 v.load, .int .i64 v.cool]) rfl (by kernel_rfl) (by kernel_rfl) (by kernel_rfl) (fun _ _ _ h => h) (yieldsIf_load_mid (by rfl) _ _ rfl w.heap.size (0) rfl [.string v.name, .int .i64 v.version, .bool v.gone, .int .i64 v.image, .int .i64 v.want, .int .i64 v.down, .int .i64 v.over, .int .i64 v.next, .int .i64 v.per, .int .i64 v.least, .int .i64 v.most, .int .i64 v.load, .int .i64 v.cool] _ (fun _ h => h.rangeA) Tryz.underlying46 rfl isz_Ssv) hS ?_
  simp only [Act.put, List.setIfInBounds_toArray, List.set_cons_zero, List.set_cons_succ]
  refine wpAnyH_ready (rs := [7]) (by kernel_rfl) (by simp) (AllReadyH.cons (o := { dst := some 10, op := _, type := _, pos := _, after := _, guard := some (3, true) }) rfl (fun K hK => ?_) AllReadyH.nil)
  go_simp
  refine (due_any v _ HN.out hp).mono ?_
  rintro e w3 ⟨rfl, hb3⟩
  have hB3 := hB2.trans (hb3.mono hB2.size)
  clear hB2
  refine hK.out _ _ (hS.below hb3 hS.lt) (fun hS => ?_)
  clear hK K
  obtain ⟨t, HT⟩ : ∃ t, Hid ((v.want != dueI v) = t) := ⟨_, rfl⟩
  refine wpAnyH_take (i := 8) (oi := { dst := some 11, op := _, type := _, pos := _, after := _, guard := some (3, true) }) (v := .bool t) rfl (by kernel_rfl) (by kernel_rfl) (by kernel_rfl) (fun _ _ _ h => h) (Or.inl ⟨by rfl, ?_⟩) hS ?_
  · intro wy hy
    clear hy
    (have h9 := HT.out; go_simp)
  simp only [Act.put, List.setIfInBounds_toArray, List.set_cons_zero, List.set_cons_succ]
  refine wpAnyH_take (i := 9) (oi := { dst := some 12, op := _, type := _, pos := _, after := _, guard := some (3, true) }) (v := .bool t) rfl (by kernel_rfl) (by kernel_rfl) (by kernel_rfl) (fun _ _ _ h => h) (Or.inl ⟨by rfl, ?_⟩) hS ?_
  · intro wy hy
    clear hy
    go_simp
  simp only [Act.put, List.setIfInBounds_toArray, List.set_cons_zero, List.set_cons_succ]
  cases t with
  | true =>
    have HE : Hid (ofB v = true) := by show _ = _; unfold ofB; rw [decide_eq_true hp, HT.out]; rfl
    refine wpAnyH_take (i := 10) (oi := { dst := some 13, op := _, type := _, pos := _, after := _, guard := some (9, false) }) (v := undef) rfl (by kernel_rfl) (by kernel_rfl) (by kernel_rfl) (fun _ _ _ h => h) (Or.inr ⟨by rfl, rfl⟩) hS ?_
    simp only [Act.put, List.setIfInBounds_toArray, List.set_cons_zero, List.set_cons_succ]
    refine wpAnyH_take (i := 11) (oi := { dst := some 14, op := _, type := _, pos := _, after := _, guard := some (9, false) }) (v := undef) rfl (by kernel_rfl) (by kernel_rfl) (by kernel_rfl) (fun _ _ _ h => h) (Or.inr ⟨by rfl, rfl⟩) hS ?_
    simp only [Act.put, List.setIfInBounds_toArray, List.set_cons_zero, List.set_cons_succ]
    refine wpAnyH_take (i := 12) (oi := { dst := some 15, op := _, type := _, pos := _, after := _, guard := some (9, false) }) (v := undef) rfl (by kernel_rfl) (by kernel_rfl) (by kernel_rfl) (fun _ _ _ h => h) (Or.inr ⟨by rfl, rfl⟩) hS ?_
    simp only [Act.put, List.setIfInBounds_toArray, List.set_cons_zero, List.set_cons_succ]
    refine wpAnyH_take (i := 13) (oi := { dst := some 16, op := _, type := _, pos := _, after := _, guard := some (3, true) }) (v := .bool true) rfl (by kernel_rfl) (by kernel_rfl) (by kernel_rfl) (fun _ _ _ h => h) (Or.inl ⟨by rfl, ?_⟩) hS ?_
    · intro wy hy
      clear hy
      go_simp
    simp only [Act.put, List.setIfInBounds_toArray, List.set_cons_zero, List.set_cons_succ]
    refine wpAnyH_take (i := 14) (oi := { dst := some 17, op := _, type := _, pos := _, after := _, guard := none }) (v := .bool true) rfl (by kernel_rfl) (by kernel_rfl) (by kernel_rfl) (fun _ _ _ h => h) (Or.inl ⟨by rfl, ?_⟩) hS ?_
    · intro wy hy
      clear hy
      go_simp
    simp only [Act.put, List.setIfInBounds_toArray, List.set_cons_zero, List.set_cons_succ]
    refine wpAnyH_take (i := 15) (oi := { dst := some 2, op := _, type := _, pos := _, after := _, guard := none }) (v := .bool true) rfl (by kernel_rfl) (by kernel_rfl) (by kernel_rfl) (fun _ _ _ h => h) (Or.inl ⟨by rfl, ?_⟩) hS ?_
    · intro wy hy
      clear hy
      go_simp
    simp only [Act.put, List.setIfInBounds_toArray, List.set_cons_zero, List.set_cons_succ]
    refine wpAnyH_done (by kernel_rfl) ?_ _
    clear hS
    go_wp2_with fail
    go_ret
    exact ⟨ret_bool HE.out.symm, hB3⟩
  | false =>
    obtain ⟨s, HSS⟩ : ∃ s, Hid ((v.cool != 0) = s) := ⟨_, rfl⟩
    have HE : Hid (ofB v = s) := by show _ = _; unfold ofB; rw [decide_eq_true hp, HT.out, HSS.out]; rfl
    refine wpAnyH_take (i := 10) (oi := { dst := some 13, op := _, type := _, pos := _, after := _, guard := some (9, false) }) (v := .pointer (some ⟨w.heap.size, 12, none⟩)) rfl (by kernel_rfl) (by kernel_rfl) (by kernel_rfl) (fun _ _ _ h => h) (Or.inl ⟨by rfl, ?_⟩) hS ?_
    · intro wy hy
      clear hy
      go_simp
    simp only [Act.put, List.setIfInBounds_toArray, List.set_cons_zero, List.set_cons_succ]
    refine wpAnyH_take (i := 11) (oi := { dst := some 14, op := _, type := _, pos := _, after := _, guard := some (9, false) }) (v := .int .i64 v.cool) rfl (by kernel_rfl) (by kernel_rfl) (by kernel_rfl) (fun _ _ _ h => h) (Or.inl ⟨by rfl, ?_⟩) hS ?_
    · intro wy hy
      have h0 : wy.cell? ⟨w.heap.size, 12, none⟩ = some (.int .i64 v.cool) := hy.cell rfl
      clear hy
      go_simp
    simp only [Act.put, List.setIfInBounds_toArray, List.set_cons_zero, List.set_cons_succ]
    refine wpAnyH_take (i := 12) (oi := { dst := some 15, op := _, type := _, pos := _, after := _, guard := some (9, false) }) (v := .bool s) rfl (by kernel_rfl) (by kernel_rfl) (by kernel_rfl) (fun _ _ _ h => h) (Or.inl ⟨by rfl, ?_⟩) hS ?_
    · intro wy hy
      clear hy
      (have h9 := HSS.out; go_simp)
    simp only [Act.put, List.setIfInBounds_toArray, List.set_cons_zero, List.set_cons_succ]
    refine wpAnyH_take (i := 13) (oi := { dst := some 16, op := _, type := _, pos := _, after := _, guard := some (3, true) }) (v := .bool s) rfl (by kernel_rfl) (by kernel_rfl) (by kernel_rfl) (fun _ _ _ h => h) (Or.inl ⟨by rfl, ?_⟩) hS ?_
    · intro wy hy
      clear hy
      go_simp
    simp only [Act.put, List.setIfInBounds_toArray, List.set_cons_zero, List.set_cons_succ]
    refine wpAnyH_take (i := 14) (oi := { dst := some 17, op := _, type := _, pos := _, after := _, guard := none }) (v := .bool s) rfl (by kernel_rfl) (by kernel_rfl) (by kernel_rfl) (fun _ _ _ h => h) (Or.inl ⟨by rfl, ?_⟩) hS ?_
    · intro wy hy
      clear hy
      go_simp
    simp only [Act.put, List.setIfInBounds_toArray, List.set_cons_zero, List.set_cons_succ]
    refine wpAnyH_take (i := 15) (oi := { dst := some 2, op := _, type := _, pos := _, after := _, guard := none }) (v := .bool s) rfl (by kernel_rfl) (by kernel_rfl) (by kernel_rfl) (fun _ _ _ h => h) (Or.inl ⟨by rfl, ?_⟩) hS ?_
    · intro wy hy
      clear hy
      go_simp
    simp only [Act.put, List.setIfInBounds_toArray, List.set_cons_zero, List.set_cons_succ]
    refine wpAnyH_done (by kernel_rfl) ?_ _
    clear hS
    go_wp2_with fail
    go_ret
    exact ⟨ret_bool HE.out.symm, hB3⟩

end Go.Proofs.YtfbmljdlkgiliaaGreat
