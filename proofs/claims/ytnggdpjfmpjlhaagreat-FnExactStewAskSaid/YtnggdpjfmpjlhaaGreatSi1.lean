import Derived.Test.YtnggdpjfmpjlhaaGreatSt3
import Derived.Lib.Bytealg
import Derived.Laws.Externs
namespace Go.Proofs.YtnggdpjfmpjlhaaGreat
open Go.RowKit

set_option maxHeartbeats 400000 in
theorem inP_any (n a b : Int) (w : World) :
  Calls Tryz.prog 57 #[.int .i64 n, .int .i64 a, .int .i64 b] w fun e w' => e = .returned (.bool (inR n a b)) ∧ w' = w := by
 by_cases h1 : a ≤ n
 ·by_cases h2 : n ≤ b
  ·have HC : Hid (inR n a b = true) := inR_yes h1 h2
   go_enter Tryz.func57, Tryz.ntmps57
   go_wp2_with fail
   go_ret
   exact ⟨ret_bool HC.out.symm, rfl⟩
  ·have h2' : b < n := by omega
   have HC : Hid (inR n a b = false) := inR_hi h2'
   clear h2
   go_enter Tryz.func57, Tryz.ntmps57
   go_wp2_with fail
   go_ret
   exact ⟨ret_bool (by rw [HC.out]; simp; omega), rfl⟩
 ·have h1' : n < a := by omega
  have HC : Hid (inR n a b = false) := inR_lo h1'
  clear h1
  go_enter Tryz.func57, Tryz.ntmps57
  go_wp2_with fail
  go_ret
  exact ⟨ret_bool HC.out.symm, rfl⟩

set_option maxHeartbeats 1000000 in
theorem inName_any (c : UInt8) (w : World) :
  Calls Tryz.prog 141 #[.int .u8 c.toNat] w fun e w' => e = .returned (.bool (snm c)) ∧ w' = w := by
 have hc : c.toNat < 256 := c.toNat_lt
 rcases (by omega : (97 ≤ c.toNat ∧ c.toNat ≤ 122) ∨ (48 ≤ c.toNat ∧ c.toNat ≤ 57) ∨ (c.toNat = 45) ∨ (122 < c.toNat) ∨ (57 < c.toNat ∧ c.toNat < 97) ∨ (c.toNat < 48 ∧ ¬ c.toNat = 45)) with c1 | c1 | c1 | c1 | c1 | c1
 ·have HL : Hid (snm c = true) := by show _ = _; unfold snm; simp; omega
  have i0 : (97 : Int) ≤ (c.toNat : Int) := by omega
  have i1 : (c.toNat : Int) ≤ 122 := by omega
  clear c1
  go_enter Tryz.func141, Tryz.ntmps141
  go_wp2_with fail
  go_ret
  exact ⟨ret_bool HL.out.symm, rfl⟩
 ·have HL : Hid (snm c = true) := by show _ = _; unfold snm; simp; omega
  have i0 : (c.toNat : Int) < 97 := by omega
  have i1 : (48 : Int) ≤ (c.toNat : Int) := by omega
  have i2 : (c.toNat : Int) ≤ 57 := by omega
  clear c1
  go_enter Tryz.func141, Tryz.ntmps141
  go_wp2_with fail
  go_ret
  exact ⟨ret_bool HL.out.symm, rfl⟩
 ·have HL : Hid (snm c = true) := by show _ = _; unfold snm; simp; omega
  have i0 : (c.toNat : Int) < 97 := by omega
  have i1 : (c.toNat : Int) < 48 := by omega
  have i2 : (c.toNat : Int) = 45 := by omega
  clear c1
  go_enter Tryz.func141, Tryz.ntmps141
  go_wp2_with fail
  go_ret
  exact ⟨ret_bool HL.out.symm, rfl⟩
 ·have HL : Hid (snm c = false) := by show _ = _; unfold snm; simp; omega
  have i0 : (97 : Int) ≤ (c.toNat : Int) := by omega
  have i1 : (122 : Int) < (c.toNat : Int) := by omega
  have i2 : (48 : Int) ≤ (c.toNat : Int) := by omega
  have i3 : (57 : Int) < (c.toNat : Int) := by omega
  have i4 : ¬ (c.toNat : Int) = 45 := by omega
  have j0 : decide ((c.toNat : Int) ≤ 122) = false := by simp; omega
  have j1 : decide ((c.toNat : Int) ≤ 57) = false := by simp; omega
  have j2 : ((c.toNat : Int) == 45) = false := by simp; omega
  clear c1
  go_enter Tryz.func141, Tryz.ntmps141
  go_wp2_with fail
  go_ret
  exact ⟨ret_bool HL.out.symm, rfl⟩
 ·have HL : Hid (snm c = false) := by show _ = _; unfold snm; simp; omega
  have i0 : (c.toNat : Int) < 97 := by omega
  have i1 : (48 : Int) ≤ (c.toNat : Int) := by omega
  have i2 : (57 : Int) < (c.toNat : Int) := by omega
  have i3 : ¬ (c.toNat : Int) = 45 := by omega
  have j0 : decide ((c.toNat : Int) ≤ 57) = false := by simp; omega
  have j1 : ((c.toNat : Int) == 45) = false := by simp; omega
  clear c1
  go_enter Tryz.func141, Tryz.ntmps141
  go_wp2_with fail
  go_ret
  exact ⟨ret_bool HL.out.symm, rfl⟩
 ·have HL : Hid (snm c = false) := by show _ = _; unfold snm; simp; omega
  have i0 : (c.toNat : Int) < 97 := by omega
  have i1 : (c.toNat : Int) < 48 := by omega
  have i2 : ¬ (c.toNat : Int) = 45 := by omega
  have j0 : ((c.toNat : Int) == 45) = false := by simp; omega
  clear c1
  go_enter Tryz.func141, Tryz.ntmps141
  go_wp2_with fail
  go_ret
  exact ⟨ret_bool HL.out.symm, rfl⟩

set_option maxHeartbeats 2000000 in
theorem isName_any (s : ByteArray) (w : World) (hs : s.size ≤ maxLen) :
  Calls Tryz.prog 127 #[.string s] w fun e w' => e = .returned (.bool (snB s)) ∧ w' = w := by
 unfold maxLen at hs
 by_cases hsz : 1 ≤ s.size ∧ s.size ≤ 20
 ·obtain ⟨h1, h2⟩ := hsz
  have hin : inR s.size 1 20 = true := inR_yes (by omega) (by omega)
  go_enter Tryz.func127, Tryz.ntmps127
  go_wp2_with (go_at_call 57; refine (inP_any _ _ _ _).mono ?_; rintro e w' ⟨rfl, rfl⟩; rw [hin])
  go_loop [10] (fun i => ∃ k : Nat, k ≤ s.size ∧ i = .int .i64 k ∧ Hid ((s.data.toList.take k).all snm = true)) (fun i => s.size - (intOf i).toNat)
  case atStart => exact ⟨0, Nat.zero_le _, rfl, rfl⟩
  case round =>
   obtain ⟨k, hk, rfl, HA⟩ := hrel
   by_cases hlt : k < s.size
   ·go_wp2_with fail
    refine (inName_any s[k] _).mono ?_
    rintro e w' ⟨rfl, rfl⟩
    cases hq : snm s[k] with
    | true =>
     have HT : Hid ((s.data.toList.take (k + 1)).all snm = true) := by
      show _ = true
      rw [take_snocB s k hlt, List.all_append, HA.out]; simp [hq]
     go_wp2_with fail
     go_round
     case rel => exact ⟨k + 1, by omega, by go_num, HT⟩
     case measure => simp [intOf]; omega
    | false =>
     have HN : Hid (snB s = false) := snB_no hlt hq
     go_wp2_with fail
     go_ret
     exact ⟨ret_bool HN.out.symm, rfl⟩
   ·go_wp2_with fail
    go_ret
    have hke : k = s.size := by omega
    exact ⟨ret_bool (snB_yes ⟨h1, h2⟩ (by rw [← hke]; exact HA.out)).symm, rfl⟩
 ·have hin : inR s.size 1 20 = false := by
   by_cases h : (s.size : Int) < 1
   ·exact inR_lo h
   ·exact inR_hi (by omega)
  have HN : Hid (snB s = false) := snB_size hsz
  clear hsz
  go_enter Tryz.func127, Tryz.ntmps127
  go_wp2_with (go_at_call 57; refine (inP_any _ _ _ _).mono ?_; rintro e w' ⟨rfl, rfl⟩; rw [hin])
  go_ret
  exact ⟨ret_bool HN.out.symm, rfl⟩

theorem isNumber_any (n : Int) (w : World) :
  Calls Tryz.prog 129 #[.int .i64 n] w fun e w' => e = .returned (.bool (inR n 1 1000000)) ∧ w' = w := by
 go_enter Tryz.func129, Tryz.ntmps129
 go_wp2_with (go_at_call 57; refine (inP_any _ _ _ _).mono ?_; rintro e w' ⟨rfl, rfl⟩)
 go_ret
 exact ⟨rfl, rfl⟩

theorem isSpare_any (n : Int) (w : World) :
  Calls Tryz.prog 130 #[.int .i64 n] w fun e w' => e = .returned (.bool (inR n 0 10)) ∧ w' = w := by
 go_enter Tryz.func130, Tryz.ntmps130
 go_wp2_with (go_at_call 57; refine (inP_any _ _ _ _).mono ?_; rintro e w' ⟨rfl, rfl⟩)
 go_ret
 exact ⟨rfl, rfl⟩

theorem isLoad_any (n : Int) (w : World) :
  Calls Tryz.prog 131 #[.int .i64 n] w fun e w' => e = .returned (.bool (inR n 0 1000000)) ∧ w' = w := by
 go_enter Tryz.func131, Tryz.ntmps131
 go_wp2_with (go_at_call 57; refine (inP_any _ _ _ _).mono ?_; rintro e w' ⟨rfl, rfl⟩)
 go_ret
 exact ⟨rfl, rfl⟩

def nuB (x : Ssv) : Bool := inR x.image 1 1000000 && inR x.next 1 1000000 && inR x.want 0 10
def spB (x : Ssv) : Bool := inR x.down 0 10 && inR x.over 0 10 && !(x.down == 0 && x.over == 0)
def scB (x : Ssv) : Bool := if x.per = 0 then (x.least == 0 && x.most == 0 && x.load == 0 && x.cool == 0) else (inR x.per 0 1000000 && inR x.load 0 1000000 && inR x.least 0 x.most && inR x.most 0 10 && inR x.cool 0 3)

theorem svB_parts (x : Ssv) (now : Int) : svB x now = (snB x.name && inR x.version 1 now && nuB x && spB x && scB x) := by
 have h1 : (inR x.down 0 10 && inR x.over 0 10 && !(x.down + x.over == 0)) = spB x := by
  unfold spB inR
  rw [Bool.eq_iff_iff]
  simp
  omega
 have h2 : sldB x = scB x := by
  unfold sldB scB
  by_cases h : x.per = 0
  ·rw [if_pos h, if_pos h]
  ·rw [if_neg h, if_neg h]
   unfold inR
   rw [Bool.eq_iff_iff]
   simp
   omega
 unfold svB nuB
 rw [h2, ← h1]
 simp only [Bool.and_assoc]

set_option maxHeartbeats 4000000 in
set_option maxRecDepth 100000 in
theorem svNamed_any (x : Ssv) (w : World) (z0 : x.name.size ≤ maxLen) :
  Calls Tryz.prog 98 #[.agg #[.string x.name, .int .i64 x.version, .bool x.gone, .int .i64 x.image, .int .i64 x.want, .int .i64 x.down, .int .i64 x.over, .int .i64 x.next, .int .i64 x.per, .int .i64 x.least, .int .i64 x.most, .int .i64 x.load, .int .i64 x.cool]] w fun e w' => e = .returned (.bool (snB x.name)) ∧ Below w.heap.size w w' := by
 have hB1 : Below w.heap.size w (w.alloc (Obj.cells #[.string x.name, .int .i64 x.version, .bool x.gone, .int .i64 x.image, .int .i64 x.want, .int .i64 x.down, .int .i64 x.over, .int .i64 x.next, .int .i64 x.per, .int .i64 x.least, .int .i64 x.most, .int .i64 x.load, .int .i64 x.cool] 50)) := by go_grown
 have HK : Hid (Blk w.heap.size #[.string x.name, .int .i64 x.version, .bool x.gone, .int .i64 x.image, .int .i64 x.want, .int .i64 x.down, .int .i64 x.over, .int .i64 x.next, .int .i64 x.per, .int .i64 x.least, .int .i64 x.most, .int .i64 x.load, .int .i64 x.cool] 50 (w.alloc (Obj.cells #[.string x.name, .int .i64 x.version, .bool x.gone, .int .i64 x.image, .int .i64 x.want, .int .i64 x.down, .int .i64 x.over, .int .i64 x.next, .int .i64 x.per, .int .i64 x.least, .int .i64 x.most, .int .i64 x.load, .int .i64 x.cool] 50))) := Blk.alloc _ _ _
 go_enter Tryz.func98, Tryz.ntmps98
 go_upto_region 1 with fail
 generalize w.alloc (Obj.cells #[.string x.name, .int .i64 x.version, .bool x.gone, .int .i64 x.image, .int .i64 x.want, .int .i64 x.down, .int .i64 x.over, .int .i64 x.next, .int .i64 x.per, .int .i64 x.least, .int .i64 x.most, .int .i64 x.load, .int .i64 x.cool] 50) = w1 at *
 have k0 : w1.cell? ⟨w.heap.size, 0, none⟩ = some (.string x.name) := HK.out.cell rfl
 have k1 : w1.cell? ⟨w.heap.size, 1, none⟩ = some (.int .i64 x.version) := HK.out.cell rfl
 have k2 : w1.cell? ⟨w.heap.size, 2, none⟩ = some (.bool x.gone) := HK.out.cell rfl
 have k3 : w1.cell? ⟨w.heap.size, 3, none⟩ = some (.int .i64 x.image) := HK.out.cell rfl
 have k4 : w1.cell? ⟨w.heap.size, 4, none⟩ = some (.int .i64 x.want) := HK.out.cell rfl
 have k5 : w1.cell? ⟨w.heap.size, 5, none⟩ = some (.int .i64 x.down) := HK.out.cell rfl
 have k6 : w1.cell? ⟨w.heap.size, 6, none⟩ = some (.int .i64 x.over) := HK.out.cell rfl
 have k7 : w1.cell? ⟨w.heap.size, 7, none⟩ = some (.int .i64 x.next) := HK.out.cell rfl
 have k8 : w1.cell? ⟨w.heap.size, 8, none⟩ = some (.int .i64 x.per) := HK.out.cell rfl
 have k9 : w1.cell? ⟨w.heap.size, 9, none⟩ = some (.int .i64 x.least) := HK.out.cell rfl
 have k10 : w1.cell? ⟨w.heap.size, 10, none⟩ = some (.int .i64 x.most) := HK.out.cell rfl
 have k11 : w1.cell? ⟨w.heap.size, 11, none⟩ = some (.int .i64 x.load) := HK.out.cell rfl
 have k12 : w1.cell? ⟨w.heap.size, 12, none⟩ = some (.int .i64 x.cool) := HK.out.cell rfl
 clear HK
 go_wp2_with fail
 refine (isName_any x.name _ z0).mono ?_
 rintro e w2 ⟨rfl, rfl⟩
 go_wp2_with fail
 go_ret
 exact ⟨rfl, hB1⟩

set_option maxHeartbeats 4000000 in
set_option maxRecDepth 100000 in
theorem btNamed_any (x : Sbt) (w : World) (z0 : x.name.size ≤ maxLen) :
  Calls Tryz.prog 106 #[.agg #[.string x.name, .bool x.drain]] w fun e w' => e = .returned (.bool (snB x.name)) ∧ Below w.heap.size w w' := by
 have hB1 : Below w.heap.size w (w.alloc (Obj.cells #[.string x.name, .bool x.drain] 85)) := by go_grown
 have HK : Hid (Blk w.heap.size #[.string x.name, .bool x.drain] 85 (w.alloc (Obj.cells #[.string x.name, .bool x.drain] 85))) := Blk.alloc _ _ _
 go_enter Tryz.func106, Tryz.ntmps106
 go_upto_region 1 with fail
 generalize w.alloc (Obj.cells #[.string x.name, .bool x.drain] 85) = w1 at *
 have k0 : w1.cell? ⟨w.heap.size, 0, none⟩ = some (.string x.name) := HK.out.cell rfl
 have k1 : w1.cell? ⟨w.heap.size, 1, none⟩ = some (.bool x.drain) := HK.out.cell rfl
 clear HK
 go_wp2_with fail
 refine (isName_any x.name _ z0).mono ?_
 rintro e w2 ⟨rfl, rfl⟩
 go_wp2_with fail
 go_ret
 exact ⟨rfl, hB1⟩

set_option maxHeartbeats 4000000 in
set_option maxRecDepth 100000 in
theorem cpImaged_any (x : Scp) (w : World) :
  Calls Tryz.prog 111 #[.agg #[.string x.service, .int .i64 x.number, .int .i64 x.version, .int .i64 x.image, .int .i64 x.state, .bool x.ending, .string x.berth]] w fun e w' => e = .returned (.bool (inR x.image 1 1000000)) ∧ Below w.heap.size w w' := by
 have hB1 : Below w.heap.size w (w.alloc (Obj.cells #[.string x.service, .int .i64 x.number, .int .i64 x.version, .int .i64 x.image, .int .i64 x.state, .bool x.ending, .string x.berth] 87)) := by go_grown
 have HK : Hid (Blk w.heap.size #[.string x.service, .int .i64 x.number, .int .i64 x.version, .int .i64 x.image, .int .i64 x.state, .bool x.ending, .string x.berth] 87 (w.alloc (Obj.cells #[.string x.service, .int .i64 x.number, .int .i64 x.version, .int .i64 x.image, .int .i64 x.state, .bool x.ending, .string x.berth] 87))) := Blk.alloc _ _ _
 go_enter Tryz.func111, Tryz.ntmps111
 go_upto_region 1 with fail
 generalize w.alloc (Obj.cells #[.string x.service, .int .i64 x.number, .int .i64 x.version, .int .i64 x.image, .int .i64 x.state, .bool x.ending, .string x.berth] 87) = w1 at *
 have k0 : w1.cell? ⟨w.heap.size, 0, none⟩ = some (.string x.service) := HK.out.cell rfl
 have k1 : w1.cell? ⟨w.heap.size, 1, none⟩ = some (.int .i64 x.number) := HK.out.cell rfl
 have k2 : w1.cell? ⟨w.heap.size, 2, none⟩ = some (.int .i64 x.version) := HK.out.cell rfl
 have k3 : w1.cell? ⟨w.heap.size, 3, none⟩ = some (.int .i64 x.image) := HK.out.cell rfl
 have k4 : w1.cell? ⟨w.heap.size, 4, none⟩ = some (.int .i64 x.state) := HK.out.cell rfl
 have k5 : w1.cell? ⟨w.heap.size, 5, none⟩ = some (.bool x.ending) := HK.out.cell rfl
 have k6 : w1.cell? ⟨w.heap.size, 6, none⟩ = some (.string x.berth) := HK.out.cell rfl
 clear HK
 go_wp2_with fail
 refine (isNumber_any x.image _).mono ?_
 rintro e w2 ⟨rfl, rfl⟩
 go_wp2_with fail
 go_ret
 exact ⟨rfl, hB1⟩

set_option maxHeartbeats 4000000 in
set_option maxRecDepth 100000 in
theorem cpStated_any (x : Scp) (w : World) :
  Calls Tryz.prog 112 #[.agg #[.string x.service, .int .i64 x.number, .int .i64 x.version, .int .i64 x.image, .int .i64 x.state, .bool x.ending, .string x.berth]] w fun e w' => e = .returned (.bool (inR x.state 1 4)) ∧ Below w.heap.size w w' := by
 have hB1 : Below w.heap.size w (w.alloc (Obj.cells #[.string x.service, .int .i64 x.number, .int .i64 x.version, .int .i64 x.image, .int .i64 x.state, .bool x.ending, .string x.berth] 87)) := by go_grown
 have HK : Hid (Blk w.heap.size #[.string x.service, .int .i64 x.number, .int .i64 x.version, .int .i64 x.image, .int .i64 x.state, .bool x.ending, .string x.berth] 87 (w.alloc (Obj.cells #[.string x.service, .int .i64 x.number, .int .i64 x.version, .int .i64 x.image, .int .i64 x.state, .bool x.ending, .string x.berth] 87))) := Blk.alloc _ _ _
 go_enter Tryz.func112, Tryz.ntmps112
 go_upto_region 1 with fail
 generalize w.alloc (Obj.cells #[.string x.service, .int .i64 x.number, .int .i64 x.version, .int .i64 x.image, .int .i64 x.state, .bool x.ending, .string x.berth] 87) = w1 at *
 have k0 : w1.cell? ⟨w.heap.size, 0, none⟩ = some (.string x.service) := HK.out.cell rfl
 have k1 : w1.cell? ⟨w.heap.size, 1, none⟩ = some (.int .i64 x.number) := HK.out.cell rfl
 have k2 : w1.cell? ⟨w.heap.size, 2, none⟩ = some (.int .i64 x.version) := HK.out.cell rfl
 have k3 : w1.cell? ⟨w.heap.size, 3, none⟩ = some (.int .i64 x.image) := HK.out.cell rfl
 have k4 : w1.cell? ⟨w.heap.size, 4, none⟩ = some (.int .i64 x.state) := HK.out.cell rfl
 have k5 : w1.cell? ⟨w.heap.size, 5, none⟩ = some (.bool x.ending) := HK.out.cell rfl
 have k6 : w1.cell? ⟨w.heap.size, 6, none⟩ = some (.string x.berth) := HK.out.cell rfl
 clear HK
 go_wp2_with fail
 refine (inP_any x.state 1 4 _).mono ?_
 rintro e w2 ⟨rfl, rfl⟩
 go_wp2_with fail
 go_ret
 exact ⟨rfl, hB1⟩

set_option maxHeartbeats 4000000 in
set_option maxRecDepth 100000 in
theorem svNumbered_any (x : Ssv) (w : World) :
  Calls Tryz.prog 100 #[.agg #[.string x.name, .int .i64 x.version, .bool x.gone, .int .i64 x.image, .int .i64 x.want, .int .i64 x.down, .int .i64 x.over, .int .i64 x.next, .int .i64 x.per, .int .i64 x.least, .int .i64 x.most, .int .i64 x.load, .int .i64 x.cool]] w fun e w' => e = .returned (.bool (nuB x)) ∧ Below w.heap.size w w' := by
 have hB1 : Below w.heap.size w (w.alloc (Obj.cells #[.string x.name, .int .i64 x.version, .bool x.gone, .int .i64 x.image, .int .i64 x.want, .int .i64 x.down, .int .i64 x.over, .int .i64 x.next, .int .i64 x.per, .int .i64 x.least, .int .i64 x.most, .int .i64 x.load, .int .i64 x.cool] 50)) := by go_grown
 have HK : Hid (Blk w.heap.size #[.string x.name, .int .i64 x.version, .bool x.gone, .int .i64 x.image, .int .i64 x.want, .int .i64 x.down, .int .i64 x.over, .int .i64 x.next, .int .i64 x.per, .int .i64 x.least, .int .i64 x.most, .int .i64 x.load, .int .i64 x.cool] 50 (w.alloc (Obj.cells #[.string x.name, .int .i64 x.version, .bool x.gone, .int .i64 x.image, .int .i64 x.want, .int .i64 x.down, .int .i64 x.over, .int .i64 x.next, .int .i64 x.per, .int .i64 x.least, .int .i64 x.most, .int .i64 x.load, .int .i64 x.cool] 50))) := Blk.alloc _ _ _
 go_enter Tryz.func100, Tryz.ntmps100
 go_upto_region 1 with fail
 generalize w.alloc (Obj.cells #[.string x.name, .int .i64 x.version, .bool x.gone, .int .i64 x.image, .int .i64 x.want, .int .i64 x.down, .int .i64 x.over, .int .i64 x.next, .int .i64 x.per, .int .i64 x.least, .int .i64 x.most, .int .i64 x.load, .int .i64 x.cool] 50) = w1 at *
 have k0 : w1.cell? ⟨w.heap.size, 0, none⟩ = some (.string x.name) := HK.out.cell rfl
 have k1 : w1.cell? ⟨w.heap.size, 1, none⟩ = some (.int .i64 x.version) := HK.out.cell rfl
 have k2 : w1.cell? ⟨w.heap.size, 2, none⟩ = some (.bool x.gone) := HK.out.cell rfl
 have k3 : w1.cell? ⟨w.heap.size, 3, none⟩ = some (.int .i64 x.image) := HK.out.cell rfl
 have k4 : w1.cell? ⟨w.heap.size, 4, none⟩ = some (.int .i64 x.want) := HK.out.cell rfl
 have k5 : w1.cell? ⟨w.heap.size, 5, none⟩ = some (.int .i64 x.down) := HK.out.cell rfl
 have k6 : w1.cell? ⟨w.heap.size, 6, none⟩ = some (.int .i64 x.over) := HK.out.cell rfl
 have k7 : w1.cell? ⟨w.heap.size, 7, none⟩ = some (.int .i64 x.next) := HK.out.cell rfl
 have k8 : w1.cell? ⟨w.heap.size, 8, none⟩ = some (.int .i64 x.per) := HK.out.cell rfl
 have k9 : w1.cell? ⟨w.heap.size, 9, none⟩ = some (.int .i64 x.least) := HK.out.cell rfl
 have k10 : w1.cell? ⟨w.heap.size, 10, none⟩ = some (.int .i64 x.most) := HK.out.cell rfl
 have k11 : w1.cell? ⟨w.heap.size, 11, none⟩ = some (.int .i64 x.load) := HK.out.cell rfl
 have k12 : w1.cell? ⟨w.heap.size, 12, none⟩ = some (.int .i64 x.cool) := HK.out.cell rfl
 clear HK
 go_wp2_with fail
 refine (isNumber_any x.image _).mono ?_
 rintro e w2 ⟨rfl, rfl⟩
 cases h0 : inR x.image 1 1000000 with
 | false =>
  go_wp2_with fail
  go_ret
  exact ⟨ret_bool (by unfold nuB; rw [h0]; simp), hB1⟩
 | true =>
  go_wp2_with fail
  refine (isNumber_any x.next _).mono ?_
  rintro e w3 ⟨rfl, rfl⟩
  cases h1 : inR x.next 1 1000000 with
  | false =>
   go_wp2_with fail
   go_ret
   exact ⟨ret_bool (by unfold nuB; rw [h0, h1]; simp), hB1⟩
  | true =>
   go_wp2_with fail
   refine (inP_any x.want 0 10 _).mono ?_
   rintro e w4 ⟨rfl, rfl⟩
   cases h2 : inR x.want 0 10 with
   | false =>
    go_wp2_with fail
    go_ret
    exact ⟨ret_bool (by unfold nuB; rw [h0, h1, h2]; simp), hB1⟩
   | true =>
    go_wp2_with fail
    go_ret
    exact ⟨ret_bool (by unfold nuB; rw [h0, h1, h2]; rfl), hB1⟩

set_option maxHeartbeats 4000000 in
set_option maxRecDepth 100000 in
theorem svSpared_any (x : Ssv) (w : World) :
  Calls Tryz.prog 101 #[.agg #[.string x.name, .int .i64 x.version, .bool x.gone, .int .i64 x.image, .int .i64 x.want, .int .i64 x.down, .int .i64 x.over, .int .i64 x.next, .int .i64 x.per, .int .i64 x.least, .int .i64 x.most, .int .i64 x.load, .int .i64 x.cool]] w fun e w' => e = .returned (.bool (spB x)) ∧ Below w.heap.size w w' := by
 have hB1 : Below w.heap.size w (w.alloc (Obj.cells #[.string x.name, .int .i64 x.version, .bool x.gone, .int .i64 x.image, .int .i64 x.want, .int .i64 x.down, .int .i64 x.over, .int .i64 x.next, .int .i64 x.per, .int .i64 x.least, .int .i64 x.most, .int .i64 x.load, .int .i64 x.cool] 50)) := by go_grown
 have HK : Hid (Blk w.heap.size #[.string x.name, .int .i64 x.version, .bool x.gone, .int .i64 x.image, .int .i64 x.want, .int .i64 x.down, .int .i64 x.over, .int .i64 x.next, .int .i64 x.per, .int .i64 x.least, .int .i64 x.most, .int .i64 x.load, .int .i64 x.cool] 50 (w.alloc (Obj.cells #[.string x.name, .int .i64 x.version, .bool x.gone, .int .i64 x.image, .int .i64 x.want, .int .i64 x.down, .int .i64 x.over, .int .i64 x.next, .int .i64 x.per, .int .i64 x.least, .int .i64 x.most, .int .i64 x.load, .int .i64 x.cool] 50))) := Blk.alloc _ _ _
 go_enter Tryz.func101, Tryz.ntmps101
 go_upto_region 1 with fail
 generalize w.alloc (Obj.cells #[.string x.name, .int .i64 x.version, .bool x.gone, .int .i64 x.image, .int .i64 x.want, .int .i64 x.down, .int .i64 x.over, .int .i64 x.next, .int .i64 x.per, .int .i64 x.least, .int .i64 x.most, .int .i64 x.load, .int .i64 x.cool] 50) = w1 at *
 have k0 : w1.cell? ⟨w.heap.size, 0, none⟩ = some (.string x.name) := HK.out.cell rfl
 have k1 : w1.cell? ⟨w.heap.size, 1, none⟩ = some (.int .i64 x.version) := HK.out.cell rfl
 have k2 : w1.cell? ⟨w.heap.size, 2, none⟩ = some (.bool x.gone) := HK.out.cell rfl
 have k3 : w1.cell? ⟨w.heap.size, 3, none⟩ = some (.int .i64 x.image) := HK.out.cell rfl
 have k4 : w1.cell? ⟨w.heap.size, 4, none⟩ = some (.int .i64 x.want) := HK.out.cell rfl
 have k5 : w1.cell? ⟨w.heap.size, 5, none⟩ = some (.int .i64 x.down) := HK.out.cell rfl
 have k6 : w1.cell? ⟨w.heap.size, 6, none⟩ = some (.int .i64 x.over) := HK.out.cell rfl
 have k7 : w1.cell? ⟨w.heap.size, 7, none⟩ = some (.int .i64 x.next) := HK.out.cell rfl
 have k8 : w1.cell? ⟨w.heap.size, 8, none⟩ = some (.int .i64 x.per) := HK.out.cell rfl
 have k9 : w1.cell? ⟨w.heap.size, 9, none⟩ = some (.int .i64 x.least) := HK.out.cell rfl
 have k10 : w1.cell? ⟨w.heap.size, 10, none⟩ = some (.int .i64 x.most) := HK.out.cell rfl
 have k11 : w1.cell? ⟨w.heap.size, 11, none⟩ = some (.int .i64 x.load) := HK.out.cell rfl
 have k12 : w1.cell? ⟨w.heap.size, 12, none⟩ = some (.int .i64 x.cool) := HK.out.cell rfl
 clear HK
 go_wp2_with fail
 refine (isSpare_any x.down _).mono ?_
 rintro e w2 ⟨rfl, rfl⟩
 cases h0 : inR x.down 0 10 with
 | false =>
  go_wp2_with fail
  go_ret
  exact ⟨ret_bool (by unfold spB; rw [h0]; simp), hB1⟩
 | true =>
  go_wp2_with fail
  refine (isSpare_any x.over _).mono ?_
  rintro e w3 ⟨rfl, rfl⟩
  cases h1 : inR x.over 0 10 with
  | false =>
   go_wp2_with fail
   go_ret
   exact ⟨ret_bool (by unfold spB; rw [h0, h1]; simp), hB1⟩
  | true =>
   by_cases hd : x.down = 0
   case neg =>
    have hd2 : (x.down == 0) = false := by simpa using hd
    go_wp2_with fail
    go_ret
    exact ⟨ret_bool (by unfold spB; rw [h0, h1]; simp [hd]), hB1⟩
   have hd2 : (x.down == 0) = true := by simpa using hd
   cases ho : (x.over == 0) with
   | false =>
    have hp : ¬ x.over = 0 := by simpa using ho
    go_wp2_with fail
    go_ret
    exact ⟨ret_bool (by unfold spB; rw [h0, h1]; simp [hd]; rfl), hB1⟩
   | true =>
    have hp :  x.over = 0 := by simpa using ho
    go_wp2_with fail
    go_ret
    exact ⟨ret_bool (by unfold spB; rw [h0, h1]; simp [hd, hp]), hB1⟩

set_option maxHeartbeats 4000000 in
set_option maxRecDepth 100000 in
theorem svScaled_any (x : Ssv) (w : World) :
  Calls Tryz.prog 102 #[.agg #[.string x.name, .int .i64 x.version, .bool x.gone, .int .i64 x.image, .int .i64 x.want, .int .i64 x.down, .int .i64 x.over, .int .i64 x.next, .int .i64 x.per, .int .i64 x.least, .int .i64 x.most, .int .i64 x.load, .int .i64 x.cool]] w fun e w' => e = .returned (.bool (scB x)) ∧ Below w.heap.size w w' := by
 have hB1 : Below w.heap.size w (w.alloc (Obj.cells #[.string x.name, .int .i64 x.version, .bool x.gone, .int .i64 x.image, .int .i64 x.want, .int .i64 x.down, .int .i64 x.over, .int .i64 x.next, .int .i64 x.per, .int .i64 x.least, .int .i64 x.most, .int .i64 x.load, .int .i64 x.cool] 50)) := by go_grown
 have HK : Hid (Blk w.heap.size #[.string x.name, .int .i64 x.version, .bool x.gone, .int .i64 x.image, .int .i64 x.want, .int .i64 x.down, .int .i64 x.over, .int .i64 x.next, .int .i64 x.per, .int .i64 x.least, .int .i64 x.most, .int .i64 x.load, .int .i64 x.cool] 50 (w.alloc (Obj.cells #[.string x.name, .int .i64 x.version, .bool x.gone, .int .i64 x.image, .int .i64 x.want, .int .i64 x.down, .int .i64 x.over, .int .i64 x.next, .int .i64 x.per, .int .i64 x.least, .int .i64 x.most, .int .i64 x.load, .int .i64 x.cool] 50))) := Blk.alloc _ _ _
 go_enter Tryz.func102, Tryz.ntmps102
 go_upto_region 1 with fail
 generalize w.alloc (Obj.cells #[.string x.name, .int .i64 x.version, .bool x.gone, .int .i64 x.image, .int .i64 x.want, .int .i64 x.down, .int .i64 x.over, .int .i64 x.next, .int .i64 x.per, .int .i64 x.least, .int .i64 x.most, .int .i64 x.load, .int .i64 x.cool] 50) = w1 at *
 have k0 : w1.cell? ⟨w.heap.size, 0, none⟩ = some (.string x.name) := HK.out.cell rfl
 have k1 : w1.cell? ⟨w.heap.size, 1, none⟩ = some (.int .i64 x.version) := HK.out.cell rfl
 have k2 : w1.cell? ⟨w.heap.size, 2, none⟩ = some (.bool x.gone) := HK.out.cell rfl
 have k3 : w1.cell? ⟨w.heap.size, 3, none⟩ = some (.int .i64 x.image) := HK.out.cell rfl
 have k4 : w1.cell? ⟨w.heap.size, 4, none⟩ = some (.int .i64 x.want) := HK.out.cell rfl
 have k5 : w1.cell? ⟨w.heap.size, 5, none⟩ = some (.int .i64 x.down) := HK.out.cell rfl
 have k6 : w1.cell? ⟨w.heap.size, 6, none⟩ = some (.int .i64 x.over) := HK.out.cell rfl
 have k7 : w1.cell? ⟨w.heap.size, 7, none⟩ = some (.int .i64 x.next) := HK.out.cell rfl
 have k8 : w1.cell? ⟨w.heap.size, 8, none⟩ = some (.int .i64 x.per) := HK.out.cell rfl
 have k9 : w1.cell? ⟨w.heap.size, 9, none⟩ = some (.int .i64 x.least) := HK.out.cell rfl
 have k10 : w1.cell? ⟨w.heap.size, 10, none⟩ = some (.int .i64 x.most) := HK.out.cell rfl
 have k11 : w1.cell? ⟨w.heap.size, 11, none⟩ = some (.int .i64 x.load) := HK.out.cell rfl
 have k12 : w1.cell? ⟨w.heap.size, 12, none⟩ = some (.int .i64 x.cool) := HK.out.cell rfl
 clear HK
 by_cases hp : x.per = 0
 case pos =>
  have HP : Hid (scB x = (x.least == 0 && x.most == 0 && x.load == 0 && x.cool == 0)) := if_pos hp
  have hp2 : (x.per == 0) = true := by rw [hp]; rfl
  clear hp
  cases g0 : (x.least == 0) with
  | false =>
   go_wp2_with fail
   go_ret
   exact ⟨ret_bool (by rw [HP.out, g0]; simp), hB1⟩
  | true =>
   cases g1 : (x.most == 0) with
   | false =>
    go_wp2_with fail
    go_ret
    exact ⟨ret_bool (by rw [HP.out, g0, g1]; simp), hB1⟩
   | true =>
    cases g2 : (x.load == 0) with
    | false =>
     go_wp2_with fail
     go_ret
     exact ⟨ret_bool (by rw [HP.out, g0, g1, g2]; simp), hB1⟩
    | true =>
     cases g3 : (x.cool == 0) with
     | false =>
      go_wp2_with fail
      go_ret
      exact ⟨ret_bool (by rw [HP.out, g0, g1, g2, g3]; simp), hB1⟩
     | true =>
      go_wp2_with fail
      go_ret
      exact ⟨ret_bool (by rw [HP.out, g0, g1, g2, g3]; rfl), hB1⟩
 have HP : Hid (scB x = (inR x.per 0 1000000 && inR x.load 0 1000000 && inR x.least 0 x.most && inR x.most 0 10 && inR x.cool 0 3)) := if_neg hp
 have hp2 : (x.per == 0) = false := by simpa using hp
 clear hp
 go_wp2_with fail
 refine (isLoad_any x.per _).mono ?_
 rintro e w2 ⟨rfl, rfl⟩
 cases h0 : inR x.per 0 1000000 with
 | false =>
  go_wp2_with fail
  go_ret
  exact ⟨ret_bool (by rw [HP.out]; rw [h0]; simp), hB1⟩
 | true =>
  go_wp2_with fail
  refine (isLoad_any x.load _).mono ?_
  rintro e w3 ⟨rfl, rfl⟩
  cases h1 : inR x.load 0 1000000 with
  | false =>
   go_wp2_with fail
   go_ret
   exact ⟨ret_bool (by rw [HP.out]; rw [h0, h1]; simp), hB1⟩
  | true =>
   go_wp2_with fail
   refine (inP_any x.least 0 x.most _).mono ?_
   rintro e w4 ⟨rfl, rfl⟩
   cases h2 : inR x.least 0 x.most with
   | false =>
    go_wp2_with fail
    go_ret
    exact ⟨ret_bool (by rw [HP.out]; rw [h0, h1, h2]; simp), hB1⟩
   | true =>
    go_wp2_with fail
    refine (inP_any x.most 0 10 _).mono ?_
    rintro e w5 ⟨rfl, rfl⟩
    cases h3 : inR x.most 0 10 with
    | false =>
     go_wp2_with fail
     go_ret
     exact ⟨ret_bool (by rw [HP.out]; rw [h0, h1, h2, h3]; simp), hB1⟩
    | true =>
     go_wp2_with fail
     refine (inP_any x.cool 0 3 _).mono ?_
     rintro e w6 ⟨rfl, rfl⟩
     cases h4 : inR x.cool 0 3 with
     | false =>
      go_wp2_with fail
      go_ret
      exact ⟨ret_bool (by rw [HP.out]; rw [h0, h1, h2, h3, h4]; simp), hB1⟩
     | true =>
      go_wp2_with fail
      go_ret
      exact ⟨ret_bool (by rw [HP.out]; rw [h0, h1, h2, h3, h4]; rfl), hB1⟩

set_option maxHeartbeats 1000000 in
set_option maxRecDepth 100000 in
theorem cmpString_any (a b : ByteArray) (w : World) :
  Calls Tryz.prog 137 #[.string a, .string b] w fun e w' => e = .returned (.int .i64 (Lib.compareBytes a.data.toList b.data.toList)) ∧ w' = w := by
 go_enter Tryz.func137, Tryz.ntmps137
 go_wp2
 rw [run_callFunc_extern Tryz.func144 (by kernel_rfl) (by kernel_rfl) (by kernel_rfl) (e := Extern.BytealgCompare.compare) (by kernel_rfl), Lib.run_compareString]
 simp only [Result.andThen]
 rw [Oper.upon_value]
 go_wp2
 go_ret
 exact ⟨rfl, rfl⟩

theorem strCmp_any (a b : ByteArray) (w : World) :
  Calls Tryz.prog 117 #[.string a, .string b] w fun e w' => e = .returned (.int .i64 (Lib.compareBytes a.data.toList b.data.toList)) ∧ w' = w := by
 go_enter Tryz.func117, Tryz.ntmps117
 go_wp2_with (go_at_call 137; refine (cmpString_any _ _ _).mono ?_; rintro e w' ⟨rfl, rfl⟩)
 go_ret
 exact ⟨rfl, rfl⟩

theorem cmpL_cases : ∀ (a b : List UInt8), (Lib.compareBytes a b = -1 ∧ Op.bytesLess a b = true ∧ Op.bytesLess b a = false ∧ a ≠ b) ∨ (Lib.compareBytes a b = 0 ∧ Op.bytesLess a b = false ∧ Op.bytesLess b a = false ∧ a = b) ∨ (Lib.compareBytes a b = 1 ∧ Op.bytesLess a b = false ∧ Op.bytesLess b a = true ∧ a ≠ b)
 | [], [] => .inr (.inl ⟨rfl, rfl, rfl, rfl⟩)
 | [], _ :: _ => .inl ⟨rfl, rfl, rfl, by simp⟩
 | _ :: _, [] => .inr (.inr ⟨rfl, rfl, rfl, by simp⟩)
 | x :: a, y :: b => by
  by_cases h1 : x < y
  ·have h2 : ¬ y < x := fun h => UInt8.lt_asymm h1 h
   have h3 : ¬ x = y := fun e => by subst e; exact UInt8.lt_irrefl _ h1
   have h4 : ¬ y = x := fun e => h3 e.symm
   exact .inl ⟨by simp [Lib.compareBytes, h1], by simp [Op.bytesLess, h1], by simp [Op.bytesLess, h2, h4], by simp [h3]⟩
  ·by_cases h2 : y < x
   ·have h3 : ¬ x = y := fun e => by subst e; exact UInt8.lt_irrefl _ h2
    have h4 : ¬ y = x := fun e => h3 e.symm
    exact .inr (.inr ⟨by simp [Lib.compareBytes, h1, h2], by simp [Op.bytesLess, h1, h3], by simp [Op.bytesLess, h2], by simp [h3]⟩)
   ·have h3 : x = y := UInt8.le_antisymm (UInt8.not_lt.1 h2) (UInt8.not_lt.1 h1)
    subst h3
    have hi := UInt8.lt_irrefl x
    rcases cmpL_cases a b with ⟨e1, e2, e3, e4⟩ | ⟨e1, e2, e3, e4⟩ | ⟨e1, e2, e3, e4⟩
    ·exact .inl ⟨by simp [Lib.compareBytes, e1], by simp [Op.bytesLess, e2], by simp [Op.bytesLess, e3], by simp [e4]⟩
    ·exact .inr (.inl ⟨by simp [Lib.compareBytes, e1], by simp [Op.bytesLess, e2], by simp [Op.bytesLess, e3], by simp [e4]⟩)
    ·exact .inr (.inr ⟨by simp [Lib.compareBytes, e1], by simp [Op.bytesLess, e2], by simp [Op.bytesLess, e3], by simp [e4]⟩)

theorem isNaN_any (n : Int) (w : World) :
  Calls Tryz.prog 146 #[.int .i64 n] w fun e w' => e = .returned (.bool false) ∧ w' = w := by
 go_enter Tryz.func146, Tryz.ntmps146
 go_wp2_with fail
 go_ret
 exact ⟨ret_bool (by simp), rfl⟩

def cmpI (a b : Int) : Int := if a < b then -1 else if b < a then 1 else 0

set_option maxHeartbeats 1000000 in
theorem cmpInt_any (a b : Int) (w : World) :
  Calls Tryz.prog 143 #[.int .i64 a, .int .i64 b] w fun e w' => e = .returned (.int .i64 (cmpI a b)) ∧ w' = w := by
 by_cases h1 : a < b
 ·have HE : Hid (cmpI a b = -1) := if_pos h1
  go_enter Tryz.func143, Tryz.ntmps143
  go_wp2_with (go_at_call 146; refine (isNaN_any _ _).mono ?_; rintro e w' ⟨rfl, rfl⟩)
  go_ret
  exact ⟨ret_int HE.out.symm, rfl⟩
 ·by_cases h2 : b < a
  ·have HE : Hid (cmpI a b = 1) := by show _ = _; unfold cmpI; rw [if_neg h1, if_pos h2]
   have h3 : decide (a < b) = false := by simpa using h1
   clear h1
   go_enter Tryz.func143, Tryz.ntmps143
   go_wp2_with (go_at_call 146; refine (isNaN_any _ _).mono ?_; rintro e w' ⟨rfl, rfl⟩)
   go_ret
   exact ⟨ret_int HE.out.symm, rfl⟩
  ·have h3 : a = b := by omega
   subst h3
   have HE : Hid (cmpI a a = 0) := by show _ = _; unfold cmpI; rw [if_neg h1, if_neg h2]
   clear h1 h2
   go_enter Tryz.func143, Tryz.ntmps143
   go_wp2_with (go_at_call 146; refine (isNaN_any _ _).mono ?_; rintro e w' ⟨rfl, rfl⟩)
   go_ret
   exact ⟨ret_int HE.out.symm, rfl⟩

end Go.Proofs.YtnggdpjfmpjlhaaGreat
