import Derived.Test.YtnggdpjfmpjlhaaGreatTkw
import Derived.Test.YtnggdpjfmpjlhaaGreatLv9
import Derived.Test.YtnggdpjfmpjlhaaGreatLvA
import Derived.Test.YtnggdpjfmpjlhaaGreatCln
namespace Go.Proofs.YtnggdpjfmpjlhaaGreat
open Go.RowKit

theorem isz_seven : (Tryz.prog.info? 117).map (·.size) = some 7 := by kernel_rfl

set_option maxHeartbeats 4000000 in
set_option maxRecDepth 100000 in
theorem cares_any (q : Nat) (w : World) : Calls Tryz.prog 62 #[.pointer (some ⟨q, 0, none⟩)] w fun e w' => e = .returned (.agg #[.nilFunc, .func (.func 85) #[.pointer (some ⟨q, 0, none⟩)] #[], .func (.func 86) #[.pointer (some ⟨q, 0, none⟩)] #[], .func (.func 87) #[.pointer (some ⟨q, 0, none⟩)] #[], .func (.func 88) #[.pointer (some ⟨q, 0, none⟩)] #[], .func (.func 89) #[.pointer (some ⟨q, 0, none⟩)] #[], .func (.func 90) #[.pointer (some ⟨q, 0, none⟩)] #[]]) ∧ Below w.heap.size w w' := by
 have hza : Blk w.heap.size #[.nilFunc, .nilFunc, .nilFunc, .nilFunc, .nilFunc, .nilFunc, .nilFunc] 117 (w.alloc (Obj.cells #[.nilFunc, .nilFunc, .nilFunc, .nilFunc, .nilFunc, .nilFunc, .nilFunc] 117)) := Blk.alloc _ _ _
 have HTS : Hid ((w.alloc (Obj.cells #[.nilFunc, .nilFunc, .nilFunc, .nilFunc, .nilFunc, .nilFunc, .nilFunc] 117)).there w.heap.size 0 7) := hza.there
 obtain ⟨w5, HW5⟩ : ∃ w5, Hid (w5 = (w.alloc (Obj.cells #[.nilFunc, .nilFunc, .nilFunc, .nilFunc, .nilFunc, .nilFunc, .nilFunc] 117)).setCells w.heap.size 0 [.nilFunc, .func (.func 85) #[.pointer (some ⟨q, 0, none⟩)] #[], .func (.func 86) #[.pointer (some ⟨q, 0, none⟩)] #[], .func (.func 87) #[.pointer (some ⟨q, 0, none⟩)] #[], .func (.func 88) #[.pointer (some ⟨q, 0, none⟩)] #[], .func (.func 89) #[.pointer (some ⟨q, 0, none⟩)] #[], .func (.func 90) #[.pointer (some ⟨q, 0, none⟩)] #[]]) := ⟨_, rfl⟩
 have HK5 : Hid (Blk w.heap.size #[.nilFunc, .func (.func 85) #[.pointer (some ⟨q, 0, none⟩)] #[], .func (.func 86) #[.pointer (some ⟨q, 0, none⟩)] #[], .func (.func 87) #[.pointer (some ⟨q, 0, none⟩)] #[], .func (.func 88) #[.pointer (some ⟨q, 0, none⟩)] #[], .func (.func 89) #[.pointer (some ⟨q, 0, none⟩)] #[], .func (.func 90) #[.pointer (some ⟨q, 0, none⟩)] #[]] 117 w5) := by
  show Blk _ _ _ _
  rw [HW5.out]
  exact hza.setAll #[.nilFunc, .func (.func 85) #[.pointer (some ⟨q, 0, none⟩)] #[], .func (.func 86) #[.pointer (some ⟨q, 0, none⟩)] #[], .func (.func 87) #[.pointer (some ⟨q, 0, none⟩)] #[], .func (.func 88) #[.pointer (some ⟨q, 0, none⟩)] #[], .func (.func 89) #[.pointer (some ⟨q, 0, none⟩)] #[], .func (.func 90) #[.pointer (some ⟨q, 0, none⟩)] #[]] rfl
 have hbx : Below w.heap.size w w5 := by
  rw [HW5.out]
  exact below_setCells (Nat.le_refl _) _ _ _ ((Below.refl _ w).alloc (Nat.le_refl _) _)
 clear hza
 go_enter Tryz.func62, Tryz.ntmps62
 go_wp2_with (refine wpList_store_to rfl 117 _ _ rfl w.heap.size 0 #[.nilFunc, .func (.func 85) #[.pointer (some ⟨q, 0, none⟩)] #[], .func (.func 86) #[.pointer (some ⟨q, 0, none⟩)] #[], .func (.func 87) #[.pointer (some ⟨q, 0, none⟩)] #[], .func (.func 88) #[.pointer (some ⟨q, 0, none⟩)] #[], .func (.func 89) #[.pointer (some ⟨q, 0, none⟩)] #[], .func (.func 90) #[.pointer (some ⟨q, 0, none⟩)] #[]] (by first | rfl | (simp [go_sem]; done)) rfl HTS.out isz_seven (by simp [Value.oneCell']) w5 HW5.out ?_)
 exact bodyPost_ret (results_cell_mid rfl _ _ w.heap.size [.nilFunc, .func (.func 85) #[.pointer (some ⟨q, 0, none⟩)] #[], .func (.func 86) #[.pointer (some ⟨q, 0, none⟩)] #[], .func (.func 87) #[.pointer (some ⟨q, 0, none⟩)] #[], .func (.func 88) #[.pointer (some ⟨q, 0, none⟩)] #[], .func (.func 89) #[.pointer (some ⟨q, 0, none⟩)] #[], .func (.func 90) #[.pointer (some ⟨q, 0, none⟩)] #[]] _ rfl HK5.out.rangeA Tryz.underlying117 rfl isz_seven) rfl ⟨rfl, hbx⟩

def caP (kd : Int) (x : Sbk) (v : Ssv) (T : Sct) (lv : Int) : Sac := if kd = 1 then kcP x v T lv else if kd = 2 then rnP x v T else if kd = 3 then mdP x v else if kd = 4 then flP v else if kd = 5 then swP x v T else dnP x v T lv

def nothB (a : Sac) : Bool := (a.create == 0) && !a.scale && (a.ends.length == 0) && !a.drop
def AsP (a : Sac) (v : Ssv) (w : World) (e : Ending) (w' : World) : Prop := (nothB a = true ∧ e = .returned (.tuple #[.agg #[.string ⟨#[]⟩, .int .i64 0, .int .i64 0, .int .i64 0, .int .i64 0, .bool false, .slice none 0 0, .bool false], .bool false]) ∧ Below w.heap.size w w') ∨ (nothB a = false ∧ ∃ (ae : Option Addr) (ce : Nat), e = .returned (.tuple #[.agg #[.string v.name, .int .i64 v.version, .int .i64 a.create, .int .i64 a.want, .int .i64 a.cool, .bool a.scale, .slice ae a.ends.length ce, .bool a.drop], .bool true]) ∧ w'.ownsRow w.heap.size 125 2 (.slice ae a.ends.length ce) a.ends.length (enV a.ends) ∧ Below w.heap.size w w')

set_option maxHeartbeats 8000000 in
set_option maxRecDepth 100000 in
theorem asks_any2 (x : Sbk) (a1 : Option Addr) (c1 : Nat) (b2 o2 c2 : Nat) (a3 : Option Addr) (c3 : Nat) (p m n lo q : Nat) (Wb : World) (v : Ssv) (lv : Int) (kd : Int) (w : World) (hF : FndS x a1 c1 (some ⟨b2, o2, none⟩) c2 a3 c3 p m n lo Wb) (hv : SVal x) (hcap : x.copies.length ≤ c2) (hK : SgL x p q Wb v lv w) (hN : SvNum v) (hlv : 0 ≤ lv ∧ lv ≤ 200) (hk : 1 ≤ kd ∧ kd ≤ 6) (hnm : v.name.size ≤ 200) :
  Calls Tryz.prog 24 #[.pointer (some ⟨q, 0, none⟩), .int .i64 kd] w fun e w' => AsP (caP kd x v (cntL x.copies v.name v.image) lv) v w e w' := by
 have hb1 : Below w.heap.size w (w.alloc (Obj.cells #[.string ⟨#[]⟩, .int .i64 0, .int .i64 0, .int .i64 0, .int .i64 0, .bool false, .slice none 0 0, .bool false] 47)) := by go_grown
 have HA1 : Hid (Blk w.heap.size #[.string ⟨#[]⟩, .int .i64 0, .int .i64 0, .int .i64 0, .int .i64 0, .bool false, .slice none 0 0, .bool false] 47 (w.alloc (Obj.cells #[.string ⟨#[]⟩, .int .i64 0, .int .i64 0, .int .i64 0, .int .i64 0, .bool false, .slice none 0 0, .bool false] 47))) := Blk.alloc _ _ _
 have HF := Hid.intro hF
 have HV := Hid.intro hv
 have HCAP := Hid.intro hcap
 have HN := Hid.intro hN
 have HLV := Hid.intro hlv
 have HNM := Hid.intro hnm
 have HK1 := Hid.intro (hK.below hb1)
 have hW : Wb.heap.size ≤ w.heap.size ∧ q < w.heap.size := ⟨hK.1.size, hK.2.lt⟩
 obtain ⟨A, HAA⟩ : ∃ A, Hid (caP kd x v (cntL x.copies v.name v.image) lv = A) := ⟨_, rfl⟩
 rw [HAA.out]
 clear hF hv hcap hK hN hlv hnm
 go_enter Tryz.func24, Tryz.ntmps24
 go_upto_region 1 with fail
 generalize w.alloc (Obj.cells #[.string ⟨#[]⟩, .int .i64 0, .int .i64 0, .int .i64 0, .int .i64 0, .bool false, .slice none 0 0, .bool false] 47) = w1 at *
 go_cut [6] (fun r wz => ∃ (gB : Nat) (ae : Option Addr) (ce : Nat), r = .pointer (some ⟨gB, 0, none⟩) ∧ w.heap.size < gB ∧ gB ≠ q ∧ Hid (Blk gB #[.string A.service, .int .i64 A.seen, .int .i64 A.create, .int .i64 A.want, .int .i64 A.cool, .bool A.scale, .slice ae A.ends.length ce, .bool A.drop] 47 wz) ∧ Hid (wz.ownsRow (w.heap.size + 1) 125 2 (.slice ae A.ends.length ce) A.ends.length (enV A.ends)) ∧ Hid (∀ b, (Value.slice ae A.ends.length ce).ownBlock = some b → b ≠ gB) ∧ Hid (Blk w.heap.size #[.string ⟨#[]⟩, .int .i64 0, .int .i64 0, .int .i64 0, .int .i64 0, .bool false, .slice none 0 0, .bool false] 47 wz) ∧ Hid (SgL x p q Wb v lv wz) ∧ Below w.heap.size w wz)
 case first =>
  go_wp2_with fail
  refine (cares_any q _).mono ?_
  rintro e w2 ⟨rfl, hb2⟩
  have HK2 := Hid.intro (HK1.out.below hb2)
  have HA2 := Hid.intro (HA1.out.below hb2 HA1.out.lt)
  have hB2 := hb1.trans (hb2.mono hb1.size)
  clear hb2 hb1 HK1 HA1
  have hkk : kd = 1 ∨ kd = 2 ∨ kd = 3 ∨ kd = 4 ∨ kd = 5 ∨ kd = 6 := by omega
  rcases hkk with rfl | rfl | rfl | rfl | rfl | rfl
  ·have HRS : Hid (kcP x v (cntL x.copies v.name v.image) lv = A) := HAA.out
   have hix : (Instr.index 117 (.agg #[.nilFunc, .func (.func 85) #[.pointer (some ⟨q, 0, none⟩)] #[], .func (.func 86) #[.pointer (some ⟨q, 0, none⟩)] #[], .func (.func 87) #[.pointer (some ⟨q, 0, none⟩)] #[], .func (.func 88) #[.pointer (some ⟨q, 0, none⟩)] #[], .func (.func 89) #[.pointer (some ⟨q, 0, none⟩)] #[], .func (.func 90) #[.pointer (some ⟨q, 0, none⟩)] #[]]) (.int .i64 1)).run Tryz.prog w2 = .ok (.func (.func 85) #[.pointer (some ⟨q, 0, none⟩)] #[]) w2 := by kernel_rfl
   go_wp2_with fail
   clear hix
   refine (keepCount_any x a1 c1 b2 o2 c2 a3 c3 p m n lo q Wb v lv _ HF.out HV.out HCAP.out HK2.out HN.out HLV.out).mono ?_
   rintro e w3 ⟨ae, ce, rfl, ho3, hb3⟩
   rw [HRS.out] at ho3 ⊢
   have HK3 := HK2.out.below hb3
   have HA3 := HA2.out.below hb3 HA2.out.lt
   have hB3 := hB2.trans (hb3.mono hB2.size)
   have hs2 : w.heap.size < w2.heap.size := HA2.out.lt
   have hza : Blk w3.heap.size #[.string ⟨#[]⟩, .int .i64 0, .int .i64 0, .int .i64 0, .int .i64 0, .bool false, .slice none 0 0, .bool false] 47 (w3.alloc (Obj.cells #[.string ⟨#[]⟩, .int .i64 0, .int .i64 0, .int .i64 0, .int .i64 0, .bool false, .slice none 0 0, .bool false] 47)) := Blk.alloc _ _ _
   have HTS : Hid ((w3.alloc (Obj.cells #[.string ⟨#[]⟩, .int .i64 0, .int .i64 0, .int .i64 0, .int .i64 0, .bool false, .slice none 0 0, .bool false] 47)).there w3.heap.size 0 8) := hza.there
   obtain ⟨w4, HW4⟩ : ∃ w4, Hid (w4 = (w3.alloc (Obj.cells #[.string ⟨#[]⟩, .int .i64 0, .int .i64 0, .int .i64 0, .int .i64 0, .bool false, .slice none 0 0, .bool false] 47)).setCells w3.heap.size 0 [.string A.service, .int .i64 A.seen, .int .i64 A.create, .int .i64 A.want, .int .i64 A.cool, .bool A.scale, .slice ae A.ends.length ce, .bool A.drop]) := ⟨_, rfl⟩
   have HX4 : Hid (Blk w3.heap.size #[.string A.service, .int .i64 A.seen, .int .i64 A.create, .int .i64 A.want, .int .i64 A.cool, .bool A.scale, .slice ae A.ends.length ce, .bool A.drop] 47 w4) := by
    show Blk _ _ _ _
    rw [HW4.out]
    exact hza.setAll #[.string A.service, .int .i64 A.seen, .int .i64 A.create, .int .i64 A.want, .int .i64 A.cool, .bool A.scale, .slice ae A.ends.length ce, .bool A.drop] rfl
   have hb4 : Below w3.heap.size w3 w4 := by
    rw [HW4.out]
    exact below_setCells (Nat.le_refl _) _ _ _ ((Below.refl _ w3).alloc (Nat.le_refl _) _)
   have HK4 := Hid.intro (HK3.below hb4)
   have HA4 := Hid.intro (HA3.below hb4 HA3.lt)
   have HO4 := Hid.intro (own_mono (ownsRow_below ho3 hb4) (b' := w.heap.size + 1) hs2)
   have HNE : Hid (∀ b, (Value.slice ae A.ends.length ce).ownBlock = some b → b ≠ w3.heap.size) := fun b e => by have := (ho3.lt b e).2; omega
   have hB4 := hB3.trans (hb4.mono hB3.size)
   have hs3 : w.heap.size < w3.heap.size := Nat.lt_of_lt_of_le hs2 hb3.size
   have hs4 : w3.heap.size ≠ q := by omega
   clear hza hb4 hb3 ho3 HK3 HA3 hB3 HK2 HA2 hB2 hs2
   go_wp2_with (refine wpList_store_to rfl 47 _ _ rfl w3.heap.size 0 #[.string A.service, .int .i64 A.seen, .int .i64 A.create, .int .i64 A.want, .int .i64 A.cool, .bool A.scale, .slice ae A.ends.length ce, .bool A.drop] (by first | rfl | (simp [go_sem]; done)) rfl HTS.out isz_Sac (by simp [Value.oneCell']) w4 HW4.out ?_)
   go_meet
   exact ⟨w3.heap.size, ae, ce, rfl, hs3, hs4, HX4, HO4, HNE, HA4, HK4, hB4⟩
  ·have HRS : Hid (rnP x v (cntL x.copies v.name v.image) = A) := HAA.out
   have hix : (Instr.index 117 (.agg #[.nilFunc, .func (.func 85) #[.pointer (some ⟨q, 0, none⟩)] #[], .func (.func 86) #[.pointer (some ⟨q, 0, none⟩)] #[], .func (.func 87) #[.pointer (some ⟨q, 0, none⟩)] #[], .func (.func 88) #[.pointer (some ⟨q, 0, none⟩)] #[], .func (.func 89) #[.pointer (some ⟨q, 0, none⟩)] #[], .func (.func 90) #[.pointer (some ⟨q, 0, none⟩)] #[]]) (.int .i64 2)).run Tryz.prog w2 = .ok (.func (.func 86) #[.pointer (some ⟨q, 0, none⟩)] #[]) w2 := by kernel_rfl
   go_wp2_with fail
   clear hix
   refine (renew_any x a1 c1 b2 o2 c2 a3 c3 p m n lo q Wb v lv _ HF.out HV.out HCAP.out HK2.out HN.out HLV.out).mono ?_
   rintro e w3 ⟨ae, ce, rfl, ho3, hb3⟩
   rw [HRS.out] at ho3 ⊢
   have HK3 := HK2.out.below hb3
   have HA3 := HA2.out.below hb3 HA2.out.lt
   have hB3 := hB2.trans (hb3.mono hB2.size)
   have hs2 : w.heap.size < w2.heap.size := HA2.out.lt
   have hza : Blk w3.heap.size #[.string ⟨#[]⟩, .int .i64 0, .int .i64 0, .int .i64 0, .int .i64 0, .bool false, .slice none 0 0, .bool false] 47 (w3.alloc (Obj.cells #[.string ⟨#[]⟩, .int .i64 0, .int .i64 0, .int .i64 0, .int .i64 0, .bool false, .slice none 0 0, .bool false] 47)) := Blk.alloc _ _ _
   have HTS : Hid ((w3.alloc (Obj.cells #[.string ⟨#[]⟩, .int .i64 0, .int .i64 0, .int .i64 0, .int .i64 0, .bool false, .slice none 0 0, .bool false] 47)).there w3.heap.size 0 8) := hza.there
   obtain ⟨w4, HW4⟩ : ∃ w4, Hid (w4 = (w3.alloc (Obj.cells #[.string ⟨#[]⟩, .int .i64 0, .int .i64 0, .int .i64 0, .int .i64 0, .bool false, .slice none 0 0, .bool false] 47)).setCells w3.heap.size 0 [.string A.service, .int .i64 A.seen, .int .i64 A.create, .int .i64 A.want, .int .i64 A.cool, .bool A.scale, .slice ae A.ends.length ce, .bool A.drop]) := ⟨_, rfl⟩
   have HX4 : Hid (Blk w3.heap.size #[.string A.service, .int .i64 A.seen, .int .i64 A.create, .int .i64 A.want, .int .i64 A.cool, .bool A.scale, .slice ae A.ends.length ce, .bool A.drop] 47 w4) := by
    show Blk _ _ _ _
    rw [HW4.out]
    exact hza.setAll #[.string A.service, .int .i64 A.seen, .int .i64 A.create, .int .i64 A.want, .int .i64 A.cool, .bool A.scale, .slice ae A.ends.length ce, .bool A.drop] rfl
   have hb4 : Below w3.heap.size w3 w4 := by
    rw [HW4.out]
    exact below_setCells (Nat.le_refl _) _ _ _ ((Below.refl _ w3).alloc (Nat.le_refl _) _)
   have HK4 := Hid.intro (HK3.below hb4)
   have HA4 := Hid.intro (HA3.below hb4 HA3.lt)
   have HO4 := Hid.intro (own_mono (ownsRow_below ho3 hb4) (b' := w.heap.size + 1) hs2)
   have HNE : Hid (∀ b, (Value.slice ae A.ends.length ce).ownBlock = some b → b ≠ w3.heap.size) := fun b e => by have := (ho3.lt b e).2; omega
   have hB4 := hB3.trans (hb4.mono hB3.size)
   have hs3 : w.heap.size < w3.heap.size := Nat.lt_of_lt_of_le hs2 hb3.size
   have hs4 : w3.heap.size ≠ q := by omega
   clear hza hb4 hb3 ho3 HK3 HA3 hB3 HK2 HA2 hB2 hs2
   go_wp2_with (refine wpList_store_to rfl 47 _ _ rfl w3.heap.size 0 #[.string A.service, .int .i64 A.seen, .int .i64 A.create, .int .i64 A.want, .int .i64 A.cool, .bool A.scale, .slice ae A.ends.length ce, .bool A.drop] (by first | rfl | (simp [go_sem]; done)) rfl HTS.out isz_Sac (by simp [Value.oneCell']) w4 HW4.out ?_)
   go_meet
   exact ⟨w3.heap.size, ae, ce, rfl, hs3, hs4, HX4, HO4, HNE, HA4, HK4, hB4⟩
  ·have HRS : Hid (mdP x v = A) := HAA.out
   have hix : (Instr.index 117 (.agg #[.nilFunc, .func (.func 85) #[.pointer (some ⟨q, 0, none⟩)] #[], .func (.func 86) #[.pointer (some ⟨q, 0, none⟩)] #[], .func (.func 87) #[.pointer (some ⟨q, 0, none⟩)] #[], .func (.func 88) #[.pointer (some ⟨q, 0, none⟩)] #[], .func (.func 89) #[.pointer (some ⟨q, 0, none⟩)] #[], .func (.func 90) #[.pointer (some ⟨q, 0, none⟩)] #[]]) (.int .i64 3)).run Tryz.prog w2 = .ok (.func (.func 87) #[.pointer (some ⟨q, 0, none⟩)] #[]) w2 := by kernel_rfl
   go_wp2_with fail
   clear hix
   refine (mend_any x a1 c1 b2 o2 c2 a3 c3 p m n lo q Wb v lv _ HF.out HV.out HCAP.out HK2.out HN.out HLV.out).mono ?_
   rintro e w3 ⟨ae, ce, rfl, ho3, hb3⟩
   rw [HRS.out] at ho3 ⊢
   have HK3 := HK2.out.below hb3
   have HA3 := HA2.out.below hb3 HA2.out.lt
   have hB3 := hB2.trans (hb3.mono hB2.size)
   have hs2 : w.heap.size < w2.heap.size := HA2.out.lt
   have hza : Blk w3.heap.size #[.string ⟨#[]⟩, .int .i64 0, .int .i64 0, .int .i64 0, .int .i64 0, .bool false, .slice none 0 0, .bool false] 47 (w3.alloc (Obj.cells #[.string ⟨#[]⟩, .int .i64 0, .int .i64 0, .int .i64 0, .int .i64 0, .bool false, .slice none 0 0, .bool false] 47)) := Blk.alloc _ _ _
   have HTS : Hid ((w3.alloc (Obj.cells #[.string ⟨#[]⟩, .int .i64 0, .int .i64 0, .int .i64 0, .int .i64 0, .bool false, .slice none 0 0, .bool false] 47)).there w3.heap.size 0 8) := hza.there
   obtain ⟨w4, HW4⟩ : ∃ w4, Hid (w4 = (w3.alloc (Obj.cells #[.string ⟨#[]⟩, .int .i64 0, .int .i64 0, .int .i64 0, .int .i64 0, .bool false, .slice none 0 0, .bool false] 47)).setCells w3.heap.size 0 [.string A.service, .int .i64 A.seen, .int .i64 A.create, .int .i64 A.want, .int .i64 A.cool, .bool A.scale, .slice ae A.ends.length ce, .bool A.drop]) := ⟨_, rfl⟩
   have HX4 : Hid (Blk w3.heap.size #[.string A.service, .int .i64 A.seen, .int .i64 A.create, .int .i64 A.want, .int .i64 A.cool, .bool A.scale, .slice ae A.ends.length ce, .bool A.drop] 47 w4) := by
    show Blk _ _ _ _
    rw [HW4.out]
    exact hza.setAll #[.string A.service, .int .i64 A.seen, .int .i64 A.create, .int .i64 A.want, .int .i64 A.cool, .bool A.scale, .slice ae A.ends.length ce, .bool A.drop] rfl
   have hb4 : Below w3.heap.size w3 w4 := by
    rw [HW4.out]
    exact below_setCells (Nat.le_refl _) _ _ _ ((Below.refl _ w3).alloc (Nat.le_refl _) _)
   have HK4 := Hid.intro (HK3.below hb4)
   have HA4 := Hid.intro (HA3.below hb4 HA3.lt)
   have HO4 := Hid.intro (own_mono (ownsRow_below ho3 hb4) (b' := w.heap.size + 1) hs2)
   have HNE : Hid (∀ b, (Value.slice ae A.ends.length ce).ownBlock = some b → b ≠ w3.heap.size) := fun b e => by have := (ho3.lt b e).2; omega
   have hB4 := hB3.trans (hb4.mono hB3.size)
   have hs3 : w.heap.size < w3.heap.size := Nat.lt_of_lt_of_le hs2 hb3.size
   have hs4 : w3.heap.size ≠ q := by omega
   clear hza hb4 hb3 ho3 HK3 HA3 hB3 HK2 HA2 hB2 hs2
   go_wp2_with (refine wpList_store_to rfl 47 _ _ rfl w3.heap.size 0 #[.string A.service, .int .i64 A.seen, .int .i64 A.create, .int .i64 A.want, .int .i64 A.cool, .bool A.scale, .slice ae A.ends.length ce, .bool A.drop] (by first | rfl | (simp [go_sem]; done)) rfl HTS.out isz_Sac (by simp [Value.oneCell']) w4 HW4.out ?_)
   go_meet
   exact ⟨w3.heap.size, ae, ce, rfl, hs3, hs4, HX4, HO4, HNE, HA4, HK4, hB4⟩
  ·have HRS : Hid (flP v = A) := HAA.out
   have hix : (Instr.index 117 (.agg #[.nilFunc, .func (.func 85) #[.pointer (some ⟨q, 0, none⟩)] #[], .func (.func 86) #[.pointer (some ⟨q, 0, none⟩)] #[], .func (.func 87) #[.pointer (some ⟨q, 0, none⟩)] #[], .func (.func 88) #[.pointer (some ⟨q, 0, none⟩)] #[], .func (.func 89) #[.pointer (some ⟨q, 0, none⟩)] #[], .func (.func 90) #[.pointer (some ⟨q, 0, none⟩)] #[]]) (.int .i64 4)).run Tryz.prog w2 = .ok (.func (.func 88) #[.pointer (some ⟨q, 0, none⟩)] #[]) w2 := by kernel_rfl
   go_wp2_with fail
   clear hix
   refine (followLoad_any x a1 c1 b2 o2 c2 a3 c3 p m n lo q Wb v lv _ HF.out HV.out HCAP.out HK2.out HN.out HLV.out).mono ?_
   rintro e w3 ⟨ae, ce, rfl, ho3, hb3⟩
   rw [HRS.out] at ho3 ⊢
   have HK3 := HK2.out.below hb3
   have HA3 := HA2.out.below hb3 HA2.out.lt
   have hB3 := hB2.trans (hb3.mono hB2.size)
   have hs2 : w.heap.size < w2.heap.size := HA2.out.lt
   have hza : Blk w3.heap.size #[.string ⟨#[]⟩, .int .i64 0, .int .i64 0, .int .i64 0, .int .i64 0, .bool false, .slice none 0 0, .bool false] 47 (w3.alloc (Obj.cells #[.string ⟨#[]⟩, .int .i64 0, .int .i64 0, .int .i64 0, .int .i64 0, .bool false, .slice none 0 0, .bool false] 47)) := Blk.alloc _ _ _
   have HTS : Hid ((w3.alloc (Obj.cells #[.string ⟨#[]⟩, .int .i64 0, .int .i64 0, .int .i64 0, .int .i64 0, .bool false, .slice none 0 0, .bool false] 47)).there w3.heap.size 0 8) := hza.there
   obtain ⟨w4, HW4⟩ : ∃ w4, Hid (w4 = (w3.alloc (Obj.cells #[.string ⟨#[]⟩, .int .i64 0, .int .i64 0, .int .i64 0, .int .i64 0, .bool false, .slice none 0 0, .bool false] 47)).setCells w3.heap.size 0 [.string A.service, .int .i64 A.seen, .int .i64 A.create, .int .i64 A.want, .int .i64 A.cool, .bool A.scale, .slice ae A.ends.length ce, .bool A.drop]) := ⟨_, rfl⟩
   have HX4 : Hid (Blk w3.heap.size #[.string A.service, .int .i64 A.seen, .int .i64 A.create, .int .i64 A.want, .int .i64 A.cool, .bool A.scale, .slice ae A.ends.length ce, .bool A.drop] 47 w4) := by
    show Blk _ _ _ _
    rw [HW4.out]
    exact hza.setAll #[.string A.service, .int .i64 A.seen, .int .i64 A.create, .int .i64 A.want, .int .i64 A.cool, .bool A.scale, .slice ae A.ends.length ce, .bool A.drop] rfl
   have hb4 : Below w3.heap.size w3 w4 := by
    rw [HW4.out]
    exact below_setCells (Nat.le_refl _) _ _ _ ((Below.refl _ w3).alloc (Nat.le_refl _) _)
   have HK4 := Hid.intro (HK3.below hb4)
   have HA4 := Hid.intro (HA3.below hb4 HA3.lt)
   have HO4 := Hid.intro (own_mono (ownsRow_below ho3 hb4) (b' := w.heap.size + 1) hs2)
   have HNE : Hid (∀ b, (Value.slice ae A.ends.length ce).ownBlock = some b → b ≠ w3.heap.size) := fun b e => by have := (ho3.lt b e).2; omega
   have hB4 := hB3.trans (hb4.mono hB3.size)
   have hs3 : w.heap.size < w3.heap.size := Nat.lt_of_lt_of_le hs2 hb3.size
   have hs4 : w3.heap.size ≠ q := by omega
   clear hza hb4 hb3 ho3 HK3 HA3 hB3 HK2 HA2 hB2 hs2
   go_wp2_with (refine wpList_store_to rfl 47 _ _ rfl w3.heap.size 0 #[.string A.service, .int .i64 A.seen, .int .i64 A.create, .int .i64 A.want, .int .i64 A.cool, .bool A.scale, .slice ae A.ends.length ce, .bool A.drop] (by first | rfl | (simp [go_sem]; done)) rfl HTS.out isz_Sac (by simp [Value.oneCell']) w4 HW4.out ?_)
   go_meet
   exact ⟨w3.heap.size, ae, ce, rfl, hs3, hs4, HX4, HO4, HNE, HA4, HK4, hB4⟩
  ·have HRS : Hid (swP x v (cntL x.copies v.name v.image) = A) := HAA.out
   have hix : (Instr.index 117 (.agg #[.nilFunc, .func (.func 85) #[.pointer (some ⟨q, 0, none⟩)] #[], .func (.func 86) #[.pointer (some ⟨q, 0, none⟩)] #[], .func (.func 87) #[.pointer (some ⟨q, 0, none⟩)] #[], .func (.func 88) #[.pointer (some ⟨q, 0, none⟩)] #[], .func (.func 89) #[.pointer (some ⟨q, 0, none⟩)] #[], .func (.func 90) #[.pointer (some ⟨q, 0, none⟩)] #[]]) (.int .i64 5)).run Tryz.prog w2 = .ok (.func (.func 89) #[.pointer (some ⟨q, 0, none⟩)] #[]) w2 := by kernel_rfl
   go_wp2_with fail
   clear hix
   refine (sweep_any x a1 c1 b2 o2 c2 a3 c3 p m n lo q Wb v lv _ HF.out HV.out HCAP.out HK2.out HN.out HLV.out).mono ?_
   rintro e w3 ⟨ae, ce, rfl, ho3, hb3⟩
   rw [HRS.out] at ho3 ⊢
   have HK3 := HK2.out.below hb3
   have HA3 := HA2.out.below hb3 HA2.out.lt
   have hB3 := hB2.trans (hb3.mono hB2.size)
   have hs2 : w.heap.size < w2.heap.size := HA2.out.lt
   have hza : Blk w3.heap.size #[.string ⟨#[]⟩, .int .i64 0, .int .i64 0, .int .i64 0, .int .i64 0, .bool false, .slice none 0 0, .bool false] 47 (w3.alloc (Obj.cells #[.string ⟨#[]⟩, .int .i64 0, .int .i64 0, .int .i64 0, .int .i64 0, .bool false, .slice none 0 0, .bool false] 47)) := Blk.alloc _ _ _
   have HTS : Hid ((w3.alloc (Obj.cells #[.string ⟨#[]⟩, .int .i64 0, .int .i64 0, .int .i64 0, .int .i64 0, .bool false, .slice none 0 0, .bool false] 47)).there w3.heap.size 0 8) := hza.there
   obtain ⟨w4, HW4⟩ : ∃ w4, Hid (w4 = (w3.alloc (Obj.cells #[.string ⟨#[]⟩, .int .i64 0, .int .i64 0, .int .i64 0, .int .i64 0, .bool false, .slice none 0 0, .bool false] 47)).setCells w3.heap.size 0 [.string A.service, .int .i64 A.seen, .int .i64 A.create, .int .i64 A.want, .int .i64 A.cool, .bool A.scale, .slice ae A.ends.length ce, .bool A.drop]) := ⟨_, rfl⟩
   have HX4 : Hid (Blk w3.heap.size #[.string A.service, .int .i64 A.seen, .int .i64 A.create, .int .i64 A.want, .int .i64 A.cool, .bool A.scale, .slice ae A.ends.length ce, .bool A.drop] 47 w4) := by
    show Blk _ _ _ _
    rw [HW4.out]
    exact hza.setAll #[.string A.service, .int .i64 A.seen, .int .i64 A.create, .int .i64 A.want, .int .i64 A.cool, .bool A.scale, .slice ae A.ends.length ce, .bool A.drop] rfl
   have hb4 : Below w3.heap.size w3 w4 := by
    rw [HW4.out]
    exact below_setCells (Nat.le_refl _) _ _ _ ((Below.refl _ w3).alloc (Nat.le_refl _) _)
   have HK4 := Hid.intro (HK3.below hb4)
   have HA4 := Hid.intro (HA3.below hb4 HA3.lt)
   have HO4 := Hid.intro (own_mono (ownsRow_below ho3 hb4) (b' := w.heap.size + 1) hs2)
   have HNE : Hid (∀ b, (Value.slice ae A.ends.length ce).ownBlock = some b → b ≠ w3.heap.size) := fun b e => by have := (ho3.lt b e).2; omega
   have hB4 := hB3.trans (hb4.mono hB3.size)
   have hs3 : w.heap.size < w3.heap.size := Nat.lt_of_lt_of_le hs2 hb3.size
   have hs4 : w3.heap.size ≠ q := by omega
   clear hza hb4 hb3 ho3 HK3 HA3 hB3 HK2 HA2 hB2 hs2
   go_wp2_with (refine wpList_store_to rfl 47 _ _ rfl w3.heap.size 0 #[.string A.service, .int .i64 A.seen, .int .i64 A.create, .int .i64 A.want, .int .i64 A.cool, .bool A.scale, .slice ae A.ends.length ce, .bool A.drop] (by first | rfl | (simp [go_sem]; done)) rfl HTS.out isz_Sac (by simp [Value.oneCell']) w4 HW4.out ?_)
   go_meet
   exact ⟨w3.heap.size, ae, ce, rfl, hs3, hs4, HX4, HO4, HNE, HA4, HK4, hB4⟩
  ·have HRS : Hid (dnP x v (cntL x.copies v.name v.image) lv = A) := HAA.out
   have hix : (Instr.index 117 (.agg #[.nilFunc, .func (.func 85) #[.pointer (some ⟨q, 0, none⟩)] #[], .func (.func 86) #[.pointer (some ⟨q, 0, none⟩)] #[], .func (.func 87) #[.pointer (some ⟨q, 0, none⟩)] #[], .func (.func 88) #[.pointer (some ⟨q, 0, none⟩)] #[], .func (.func 89) #[.pointer (some ⟨q, 0, none⟩)] #[], .func (.func 90) #[.pointer (some ⟨q, 0, none⟩)] #[]]) (.int .i64 6)).run Tryz.prog w2 = .ok (.func (.func 90) #[.pointer (some ⟨q, 0, none⟩)] #[]) w2 := by kernel_rfl
   go_wp2_with fail
   clear hix
   refine (drain_any x a1 c1 b2 o2 c2 a3 c3 p m n lo q Wb v lv _ HF.out HV.out HCAP.out HK2.out HN.out HLV.out).mono ?_
   rintro e w3 ⟨ae, ce, rfl, ho3, hb3⟩
   rw [HRS.out] at ho3 ⊢
   have HK3 := HK2.out.below hb3
   have HA3 := HA2.out.below hb3 HA2.out.lt
   have hB3 := hB2.trans (hb3.mono hB2.size)
   have hs2 : w.heap.size < w2.heap.size := HA2.out.lt
   have hza : Blk w3.heap.size #[.string ⟨#[]⟩, .int .i64 0, .int .i64 0, .int .i64 0, .int .i64 0, .bool false, .slice none 0 0, .bool false] 47 (w3.alloc (Obj.cells #[.string ⟨#[]⟩, .int .i64 0, .int .i64 0, .int .i64 0, .int .i64 0, .bool false, .slice none 0 0, .bool false] 47)) := Blk.alloc _ _ _
   have HTS : Hid ((w3.alloc (Obj.cells #[.string ⟨#[]⟩, .int .i64 0, .int .i64 0, .int .i64 0, .int .i64 0, .bool false, .slice none 0 0, .bool false] 47)).there w3.heap.size 0 8) := hza.there
   obtain ⟨w4, HW4⟩ : ∃ w4, Hid (w4 = (w3.alloc (Obj.cells #[.string ⟨#[]⟩, .int .i64 0, .int .i64 0, .int .i64 0, .int .i64 0, .bool false, .slice none 0 0, .bool false] 47)).setCells w3.heap.size 0 [.string A.service, .int .i64 A.seen, .int .i64 A.create, .int .i64 A.want, .int .i64 A.cool, .bool A.scale, .slice ae A.ends.length ce, .bool A.drop]) := ⟨_, rfl⟩
   have HX4 : Hid (Blk w3.heap.size #[.string A.service, .int .i64 A.seen, .int .i64 A.create, .int .i64 A.want, .int .i64 A.cool, .bool A.scale, .slice ae A.ends.length ce, .bool A.drop] 47 w4) := by
    show Blk _ _ _ _
    rw [HW4.out]
    exact hza.setAll #[.string A.service, .int .i64 A.seen, .int .i64 A.create, .int .i64 A.want, .int .i64 A.cool, .bool A.scale, .slice ae A.ends.length ce, .bool A.drop] rfl
   have hb4 : Below w3.heap.size w3 w4 := by
    rw [HW4.out]
    exact below_setCells (Nat.le_refl _) _ _ _ ((Below.refl _ w3).alloc (Nat.le_refl _) _)
   have HK4 := Hid.intro (HK3.below hb4)
   have HA4 := Hid.intro (HA3.below hb4 HA3.lt)
   have HO4 := Hid.intro (own_mono (ownsRow_below ho3 hb4) (b' := w.heap.size + 1) hs2)
   have HNE : Hid (∀ b, (Value.slice ae A.ends.length ce).ownBlock = some b → b ≠ w3.heap.size) := fun b e => by have := (ho3.lt b e).2; omega
   have hB4 := hB3.trans (hb4.mono hB3.size)
   have hs3 : w.heap.size < w3.heap.size := Nat.lt_of_lt_of_le hs2 hb3.size
   have hs4 : w3.heap.size ≠ q := by omega
   clear hza hb4 hb3 ho3 HK3 HA3 hB3 HK2 HA2 hB2 hs2
   go_wp2_with (refine wpList_store_to rfl 47 _ _ rfl w3.heap.size 0 #[.string A.service, .int .i64 A.seen, .int .i64 A.create, .int .i64 A.want, .int .i64 A.cool, .bool A.scale, .slice ae A.ends.length ce, .bool A.drop] (by first | rfl | (simp [go_sem]; done)) rfl HTS.out isz_Sac (by simp [Value.oneCell']) w4 HW4.out ?_)
   go_meet
   exact ⟨w3.heap.size, ae, ce, rfl, hs3, hs4, HX4, HO4, HNE, HA4, HK4, hB4⟩
 case rest =>
  clear HK1 HA1 hb1
  obtain ⟨gB, ae, ce, rfl, hg1, hgq, HX, HO, HNE, HA, HK, hB⟩ := hcut
  generalize wc = w1 at *
  have y2 : w1.cell? ⟨gB, 2, none⟩ = some (.int .i64 A.create) := HX.out.cell rfl
  have y5 : w1.cell? ⟨gB, 5, none⟩ = some (.bool A.scale) := HX.out.cell rfl
  have y6 : w1.cell? ⟨gB, 6, none⟩ = some (.slice ae A.ends.length ce) := HX.out.cell rfl
  have y7 : w1.cell? ⟨gB, 7, none⟩ = some (.bool A.drop) := HX.out.cell rfl
  go_upto_region 2 with fail
  go_cut [30] (fun r wz => r = .bool (nothB A) ∧ wz = w1)
  case first =>
   by_cases c1 : A.create = 0
   ·have e1 : (A.create == 0) = true := by simpa using c1
    cases c2 : A.scale with
    | true =>
     have HE : Hid (nothB A = false) := by show _ = _; unfold nothB; rw [e1, c2]; rfl
     rw [c2] at y5
     clear c1 c2
     go_wp2_with fail
     go_meet
     exact ⟨by rw [HE.out], rfl⟩
    | false =>
     rw [c2] at y5
     by_cases c3 : A.ends.length = 0
     ·have e3 : (A.ends.length == 0) = true := by simpa using c3
      have e4 : (((A.ends.length : Nat) : Int) == 0) = true := by simpa using c3
      cases c4 : A.drop with
      | true =>
       have HE : Hid (nothB A = false) := by show _ = _; unfold nothB; rw [e1, c2, e3, c4]; rfl
       rw [c4] at y7
       clear c1 c2 c3 c4
       go_wp2_with fail
       go_meet
       exact ⟨by rw [HE.out], rfl⟩
      | false =>
       have HE : Hid (nothB A = true) := by show _ = _; unfold nothB; rw [e1, c2, e3, c4]; rfl
       rw [c4] at y7
       clear c1 c2 c3 c4
       go_wp2_with fail
       go_meet
       exact ⟨by rw [HE.out], rfl⟩
     ·have e3 : (A.ends.length == 0) = false := by simpa using c3
      have e4 : (((A.ends.length : Nat) : Int) == 0) = false := by simpa using c3
      have HE : Hid (nothB A = false) := by show _ = _; unfold nothB; rw [e1, c2, e3]; rfl
      clear c1 c2 c3
      go_wp2_with fail
      go_meet
      exact ⟨by rw [HE.out], rfl⟩
   ·have e1 : (A.create == 0) = false := by simpa using c1
    have HE : Hid (nothB A = false) := by show _ = _; unfold nothB; rw [e1]; rfl
    clear c1
    go_wp2_with fail
    go_meet
    exact ⟨by rw [HE.out], rfl⟩
  case rest =>
   obtain ⟨rfl, rfl⟩ := hcut
   clear y2 y5 y6 y7
   generalize wc = w1 at *
   cases hno : nothB A with
   | true =>
    have HNO := Hid.intro hno
    clear hno
    have HTA := Hid.intro HA.out.there
    obtain ⟨wf, HE⟩ : ∃ wf, Hid (wf = w1.setCells w.heap.size 0 [.string ⟨#[]⟩, .int .i64 0, .int .i64 0, .int .i64 0, .int .i64 0, .bool false, .slice none 0 0, .bool false]) := ⟨_, rfl⟩
    have HRf : Hid (wf.rangeAt w.heap.size 0 [.string ⟨#[]⟩, .int .i64 0, .int .i64 0, .int .i64 0, .int .i64 0, .bool false, .slice none 0 0, .bool false]) := by
     show World.rangeAt _ _ _ _
     rw [HE.out]
     exact World.rangeAt_setCells_same _ _ _ _ HTA.out
    have HBf : Hid (Below w.heap.size w wf) := by
     show Below _ _ _
     rw [HE.out]
     exact below_setCells (Nat.le_refl _) _ _ _ hB
    go_wp2_with (refine wpList_store_to rfl 47 _ _ rfl w.heap.size 0 #[.string ⟨#[]⟩, .int .i64 0, .int .i64 0, .int .i64 0, .int .i64 0, .bool false, .slice none 0 0, .bool false] (by first | rfl | (simp [go_sem]; done)) rfl HTA.out isz_Sac (by simp [Value.oneCell']) wf HE.out ?_)
    exact bodyPost_ret (results_cell_tmp rfl _ _ w.heap.size [.string ⟨#[]⟩, .int .i64 0, .int .i64 0, .int .i64 0, .int .i64 0, .bool false, .slice none 0 0, .bool false] _ rfl HRf.out Tryz.underlying47 rfl isz_Sac) rfl (.inl ⟨HNO.out, rfl, HBf.out⟩)
   | false =>
    have HNO := Hid.intro hno
    clear hno
    go_upto_region 4 with fail
    refine wp_region_held_drew (S := fun wy => SgL x p q Wb v lv wy) (by kernel_rfl) (HK.out.below (Below.refl _ _).drew) (fun hS => ?_)
    have hB2 := hB.drew
    have HX2 := Hid.intro HX.out.drew
    have HA2 := Hid.intro HA.out.drew
    have HO2 := Hid.intro (ownsRow_below HO.out (Below.refl _ _).drew)
    clear hB HX HA HO HK
    generalize w1.drew = w2 at *
    refine tz 0 32 (.pointer (some ⟨q, 0, none⟩)) rfl hS ?_
    simp only [pA,pB,pC,pD]
    refine tz 1 33 (.pointer (some ⟨q, 0, none⟩)) rfl hS ?_
    simp only [pA,pB,pC,pD]
    refine tz 2 34 (.pointer (some ⟨q, 0, none⟩)) rfl hS ?_
    simp only [pA,pB,pC,pD]
    refine tz 3 35 (.pointer (some ⟨q, 0, none⟩)) rfl hS ?_
    simp only [pA,pB,pC,pD]
    refine tl 4 36 (.string v.name) ⟨q, 0, none⟩ rfl (fun wy hy => hy.2.cell rfl) hS ?_
    simp only [pA,pB,pC,pD]
    refine tz 6 38 (.pointer (some ⟨q, 0, none⟩)) rfl hS ?_
    simp only [pA,pB,pC,pD]
    refine tz 7 39 (.pointer (some ⟨q, 0, none⟩)) rfl hS ?_
    simp only [pA,pB,pC,pD]
    refine tz 8 40 (.pointer (some ⟨q, 0, none⟩)) rfl hS ?_
    simp only [pA,pB,pC,pD]
    refine tz 9 41 (.pointer (some ⟨q, 1, none⟩)) rfl hS ?_
    simp only [pA,pB,pC,pD]
    refine tl 10 42 (.int .i64 v.version) ⟨q, 1, none⟩ rfl (fun wy hy => hy.2.cell rfl) hS ?_
    simp only [pA,pB,pC,pD]
    refine rd1 5 ⟨some 37, _, _, _, _, none⟩ rfl (fun K hK => ?_)
    go_simp
    refine (clone_any v.name _ HNM.out).mono ?_
    rintro e w3 ⟨rfl, hb3⟩
    have hB3 := hB2.trans (hb3.mono hB2.size)
    have HX3 := HX2.out.below hb3 HX2.out.lt
    have HA3 := HA2.out.below hb3 HA2.out.lt
    have HO3 := ownsRow_below HO2.out hb3
    refine hK.out _ _ (hS.below hb3) (fun hS => ?_)
    clear hK K hb3 hB2 HX2 HA2 HO2
    refine tz 11 43 (.pointer (some ⟨gB, 0, none⟩)) rfl hS ?_
    simp only [pA,pB,pC,pD]
    have kz := HX3.cell (o := 0) rfl
    have fz := HX3.frozen 0
    refine rd1 12 ⟨none, _, _, _, _, none⟩ rfl (fun K hK => ?_)
    go_simp
    have HX4 : Blk gB #[.string v.name, .int .i64 A.seen, .int .i64 A.create, .int .i64 A.want, .int .i64 A.cool, .bool A.scale, .slice ae A.ends.length ce, .bool A.drop] 47 (w3.setCell ⟨gB, 0, none⟩ (.string v.name)) := HX3.set 0 (.string v.name)
    have HA4 := HA3.other (a := ⟨gB, 0, none⟩) (by show _ ≠ gB; omega) (.string v.name)
    have HO4 : World.ownsRow (w3.setCell ⟨gB, 0, none⟩ (.string v.name)) _ _ _ _ _ _ := HO3.kept (grown_setCells gB [.string v.name] 0 w3) (.inr (fun e => HNE.out gB e rfl))
    have hB4 : Below w.heap.size w (w3.setCell ⟨gB, 0, none⟩ (.string v.name)) := hB3.setCell (p := ⟨gB, 0, none⟩) (by show w.heap.size ≤ gB; omega) _
    have hS4 : SgL x p q Wb v lv (w3.setCell ⟨gB, 0, none⟩ (.string v.name)) := hS.grown (grown_setCells gB [.string v.name] 0 w3) (fun r e => by cases e; exact ⟨by omega, hgq⟩)
    refine hK.out _ _ hS4 (fun hS => ?_)
    clear hK K kz fz hS4 HX3 HA3 HO3 hB3
    generalize w3.setCell ⟨gB, 0, none⟩ (.string v.name) = w4 at *
    refine tz 13 44 (.pointer (some ⟨gB, 1, none⟩)) rfl hS ?_
    simp only [pA,pB,pC,pD]
    have kz := HX4.cell (o := 1) rfl
    have fz := HX4.frozen 1
    refine rd1 14 ⟨none, _, _, _, _, none⟩ rfl (fun K hK => ?_)
    go_simp
    have HX5 : Blk gB #[.string v.name, .int .i64 v.version, .int .i64 A.create, .int .i64 A.want, .int .i64 A.cool, .bool A.scale, .slice ae A.ends.length ce, .bool A.drop] 47 (w4.setCell ⟨gB, 1, none⟩ (.int .i64 v.version)) := HX4.set 1 (.int .i64 v.version)
    have HA5 := HA4.other (a := ⟨gB, 1, none⟩) (by show _ ≠ gB; omega) (.int .i64 v.version)
    have HO5 : World.ownsRow (w4.setCell ⟨gB, 1, none⟩ (.int .i64 v.version)) _ _ _ _ _ _ := HO4.kept (grown_setCells gB [.int .i64 v.version] 1 w4) (.inr (fun e => HNE.out gB e rfl))
    have hB5 : Below w.heap.size w (w4.setCell ⟨gB, 1, none⟩ (.int .i64 v.version)) := hB4.setCell (p := ⟨gB, 1, none⟩) (by show w.heap.size ≤ gB; omega) _
    have hS5 : SgL x p q Wb v lv (w4.setCell ⟨gB, 1, none⟩ (.int .i64 v.version)) := hS.grown (grown_setCells gB [.int .i64 v.version] 1 w4) (fun r e => by cases e; exact ⟨by omega, hgq⟩)
    refine hK.out _ _ hS5 (fun hS => ?_)
    clear hK K kz fz hS5 HX4 HA4 HO4 hB4
    generalize w4.setCell ⟨gB, 1, none⟩ (.int .i64 v.version) = w5 at *
    refine wpAnyH_done (by kernel_rfl) ?_ _
    clear hS
    have HX5 := Hid.intro HX5.rangeA
    have HA5 := Hid.intro HA5
    have HO5 := Hid.intro HO5
    have HTA := Hid.intro HA5.out.there
    obtain ⟨wf, HE⟩ : ∃ wf, Hid (wf = w5.setCells w.heap.size 0 [.string v.name, .int .i64 v.version, .int .i64 A.create, .int .i64 A.want, .int .i64 A.cool, .bool A.scale, .slice ae A.ends.length ce, .bool A.drop]) := ⟨_, rfl⟩
    have HRf : Hid (wf.rangeAt w.heap.size 0 [.string v.name, .int .i64 v.version, .int .i64 A.create, .int .i64 A.want, .int .i64 A.cool, .bool A.scale, .slice ae A.ends.length ce, .bool A.drop]) := by
     show World.rangeAt _ _ _ _
     rw [HE.out]
     exact World.rangeAt_setCells_same _ _ _ _ HTA.out
    have HBf : Hid (Below w.heap.size w wf) := by
     show Below _ _ _
     rw [HE.out]
     exact below_setCells (Nat.le_refl _) _ _ _ hB5
    have HOf : Hid (wf.ownsRow w.heap.size 125 2 (.slice ae A.ends.length ce) A.ends.length (enV A.ends)) := by
     show World.ownsRow _ _ _ _ _ _ _
     rw [HE.out]
     exact own_store HO5.out (Nat.lt_succ_self _)
    go_wp2_with (first | (refine wpList_load_mid rfl 47 _ rfl gB 0 (by first | rfl | (simp [go_sem]; done)) [.string v.name, .int .i64 v.version, .int .i64 A.create, .int .i64 A.want, .int .i64 A.cool, .bool A.scale, .slice ae A.ends.length ce, .bool A.drop] _ HX5.out Tryz.underlying47 rfl isz_Sac ?_) | (refine wpList_store_to rfl 47 _ _ rfl w.heap.size 0 #[.string v.name, .int .i64 v.version, .int .i64 A.create, .int .i64 A.want, .int .i64 A.cool, .bool A.scale, .slice ae A.ends.length ce, .bool A.drop] (by first | rfl | (simp [go_sem]; done)) rfl HTA.out isz_Sac (by simp [Value.oneCell']) wf HE.out ?_))
    exact bodyPost_ret (results_cell_tmp rfl _ _ w.heap.size [.string v.name, .int .i64 v.version, .int .i64 A.create, .int .i64 A.want, .int .i64 A.cool, .bool A.scale, .slice ae A.ends.length ce, .bool A.drop] _ rfl HRf.out Tryz.underlying47 rfl isz_Sac) rfl (.inr ⟨HNO.out, ae, ce, rfl, HOf.out, HBf.out⟩)

end Go.Proofs.YtnggdpjfmpjlhaaGreat
