import Derived.Test.YtnggdpjfmpjlhaaGreatSk4
namespace Go.Proofs.YtnggdpjfmpjlhaaGreat
open Go.RowKit

def desI (v : Ssv) : Int :=
 let d := (v.load + v.per - 1).tdiv v.per
 let e := if d < v.least then v.least else d
 if v.most < e then v.most else e

structure SvNum (v : Ssv) : Prop where
 per : 0 ≤ v.per ∧ v.per ≤ 1000000
 load : 0 ≤ v.load ∧ v.load ≤ 1000000
 want : 0 ≤ v.want ∧ v.want ≤ 10
 over : 0 ≤ v.over ∧ v.over ≤ 10
 cool : 0 ≤ v.cool ∧ v.cool ≤ 3

theorem svNum {v : Ssv} {now : Int} (h : svB v now = true) : SvNum v := by
 unfold svB sldB at h
 by_cases hp : v.per = 0
 ·simp [inR, hp] at h
  exact ⟨by omega, by omega, by omega, by omega, by omega⟩
 ·simp [inR, hp] at h
  exact ⟨by omega, by omega, by omega, by omega, by omega⟩

set_option maxHeartbeats 4000000 in
set_option maxRecDepth 100000 in
theorem desired_any (v : Ssv) (w : World) (hn : SvNum v) (hp : 0 < v.per) :
  Calls Tryz.prog 74 #[.agg #[.string v.name, .int .i64 v.version, .bool v.gone, .int .i64 v.image, .int .i64 v.want, .int .i64 v.down, .int .i64 v.over, .int .i64 v.next, .int .i64 v.per, .int .i64 v.least, .int .i64 v.most, .int .i64 v.load, .int .i64 v.cool]] w fun e w' => e = .returned (.int .i64 (desI v)) ∧ Below w.heap.size w w' := by
 have hB1 : Below w.heap.size w (w.alloc (Obj.cells #[.string v.name, .int .i64 v.version, .bool v.gone, .int .i64 v.image, .int .i64 v.want, .int .i64 v.down, .int .i64 v.over, .int .i64 v.next, .int .i64 v.per, .int .i64 v.least, .int .i64 v.most, .int .i64 v.load, .int .i64 v.cool] 50)) := by go_grown
 have HK : Hid (Blk w.heap.size #[.string v.name, .int .i64 v.version, .bool v.gone, .int .i64 v.image, .int .i64 v.want, .int .i64 v.down, .int .i64 v.over, .int .i64 v.next, .int .i64 v.per, .int .i64 v.least, .int .i64 v.most, .int .i64 v.load, .int .i64 v.cool] 50 (w.alloc (Obj.cells #[.string v.name, .int .i64 v.version, .bool v.gone, .int .i64 v.image, .int .i64 v.want, .int .i64 v.down, .int .i64 v.over, .int .i64 v.next, .int .i64 v.per, .int .i64 v.least, .int .i64 v.most, .int .i64 v.load, .int .i64 v.cool] 50))) := Blk.alloc _ _ _
 obtain ⟨hper, hload, _, _, _⟩ := hn
 have hq0 : 0 ≤ (v.load + v.per - 1).tdiv v.per := Int.tdiv_nonneg (by omega) (by omega)
 have hq1 : (v.load + v.per - 1).tdiv v.per ≤ 2000000 := by
  have h1 : (v.load + v.per - 1).tdiv v.per ≤ v.load + v.per - 1 := by
   rw [Int.tdiv_eq_ediv_of_nonneg (by omega)]
   exact Int.ediv_le_self _ (by omega)
  omega
 have hz : (v.per == 0) = false := by simp; omega
 have hz2 : ¬ v.per = 0 := by omega
 have HW1 : IntKind.i64.wrap (v.load + v.per) = v.load + v.per := by rw [IntKind.wrap_i64]; omega
 have HW2 : IntKind.i64.wrap (v.load + v.per - 1) = v.load + v.per - 1 := by rw [IntKind.wrap_i64]; omega
 have HW3 : IntKind.i64.wrap ((v.load + v.per - 1).tdiv v.per) = (v.load + v.per - 1).tdiv v.per := by rw [IntKind.wrap_i64]; omega
 go_enter Tryz.func74, Tryz.ntmps74
 go_upto_region 1 with fail
 generalize w.alloc (Obj.cells #[.string v.name, .int .i64 v.version, .bool v.gone, .int .i64 v.image, .int .i64 v.want, .int .i64 v.down, .int .i64 v.over, .int .i64 v.next, .int .i64 v.per, .int .i64 v.least, .int .i64 v.most, .int .i64 v.load, .int .i64 v.cool] 50) = w1 at *

 have k8 : w1.cell? ⟨w.heap.size, 8, none⟩ = some (.int .i64 v.per) := HK.out.cell rfl
 have k9 : w1.cell? ⟨w.heap.size, 9, none⟩ = some (.int .i64 v.least) := HK.out.cell rfl
 have k10 : w1.cell? ⟨w.heap.size, 10, none⟩ = some (.int .i64 v.most) := HK.out.cell rfl
 have k11 : w1.cell? ⟨w.heap.size, 11, none⟩ = some (.int .i64 v.load) := HK.out.cell rfl
 clear HK
 obtain ⟨d, hd⟩ : ∃ d, d = (v.load + v.per - 1).tdiv v.per := ⟨_, rfl⟩
 rw [← hd] at hq0 hq1 HW3
 have HD : Hid (desI v = if v.most < (if d < v.least then v.least else d) then v.most else (if d < v.least then v.least else d)) := by show _ = _; unfold desI; rw [← hd]
 go_cut [3] (fun p wz => p = .int .i64 d ∧ wz = w1)
 case first =>
  rw [hd] at HW3
  go_wp2_with fail
  go_meet
  exact ⟨by rw [hd], rfl⟩
 case rest =>
  obtain ⟨rfl, rfl⟩ := hcut
  clear hd
  by_cases h1 : d < v.least
  ·rw [if_pos h1] at HD
   by_cases h2 : v.most < v.least
   ·rw [if_pos h2] at HD
    go_wp2_with fail
    go_ret
    exact ⟨ret_int HD.out.symm, hB1⟩
   ·rw [if_neg h2] at HD
    have h2' : v.least ≤ v.most := by omega
    go_wp2_with fail
    go_ret
    exact ⟨ret_int HD.out.symm, hB1⟩
  ·rw [if_neg h1] at HD
   have h1' : v.least ≤ d := by omega
   by_cases h2 : v.most < d
   ·rw [if_pos h2] at HD
    go_wp2_with fail
    go_ret
    exact ⟨ret_int HD.out.symm, hB1⟩
   ·rw [if_neg h2] at HD
    have h2' : d ≤ v.most := by omega
    go_wp2_with fail
    go_ret
    exact ⟨ret_int HD.out.symm, hB1⟩

def AcRes (a : Sac) (w : World) (e : Ending) (w' : World) : Prop := ∃ (ae : Option Addr) (ce : Nat), e = .returned (.agg #[.string a.service, .int .i64 a.seen, .int .i64 a.create, .int .i64 a.want, .int .i64 a.cool, .bool a.scale, .slice ae a.ends.length ce, .bool a.drop]) ∧ SliceC SenC 2 w.heap.size w' ae a.ends ∧ Below w.heap.size w w'

def scA (v : Ssv) : Sac :=
 if v.want < v.least then ⟨v.name, v.version, 0, v.least, 0, true, [], false⟩
 else if v.most < v.want then ⟨v.name, v.version, 0, v.most, 0, true, [], false⟩
 else if v.want < desI v then ⟨v.name, v.version, 0, desI v, 0, true, [], false⟩
 else if desI v < v.want then (if 3 ≤ v.cool then ⟨v.name, v.version, 0, v.want - 1, 0, true, [], false⟩ else ⟨v.name, v.version, 0, v.want, v.cool + 1, true, [], false⟩)
 else if v.cool = 0 then ⟨v.name, v.version, 0, 0, 0, false, [], false⟩
 else ⟨v.name, v.version, 0, v.want, 0, true, [], false⟩

set_option maxHeartbeats 8000000 in
set_option maxRecDepth 100000 in
theorem scaler_any (v : Ssv) (w : World) (hn : SvNum v) (hp : 0 < v.per) :
  Calls Tryz.prog 49 #[.agg #[.string v.name, .int .i64 v.version, .bool v.gone, .int .i64 v.image, .int .i64 v.want, .int .i64 v.down, .int .i64 v.over, .int .i64 v.next, .int .i64 v.per, .int .i64 v.least, .int .i64 v.most, .int .i64 v.load, .int .i64 v.cool], .agg #[.string v.name, .int .i64 v.version, .int .i64 0, .int .i64 0, .int .i64 0, .bool false, .slice none 0 0, .bool false]] w fun e w' => AcRes (scA v) w e w' := by
 have hs1 : Blk w.heap.size #[.string v.name, .int .i64 v.version, .bool v.gone, .int .i64 v.image, .int .i64 v.want, .int .i64 v.down, .int .i64 v.over, .int .i64 v.next, .int .i64 v.per, .int .i64 v.least, .int .i64 v.most, .int .i64 v.load, .int .i64 v.cool] 50 (w.alloc (Obj.cells #[.string v.name, .int .i64 v.version, .bool v.gone, .int .i64 v.image, .int .i64 v.want, .int .i64 v.down, .int .i64 v.over, .int .i64 v.next, .int .i64 v.per, .int .i64 v.least, .int .i64 v.most, .int .i64 v.load, .int .i64 v.cool] 50)) := Blk.alloc _ _ _
 have hs2 : Blk w.heap.size #[.string v.name, .int .i64 v.version, .bool v.gone, .int .i64 v.image, .int .i64 v.want, .int .i64 v.down, .int .i64 v.over, .int .i64 v.next, .int .i64 v.per, .int .i64 v.least, .int .i64 v.most, .int .i64 v.load, .int .i64 v.cool] 50 ((w.alloc (Obj.cells #[.string v.name, .int .i64 v.version, .bool v.gone, .int .i64 v.image, .int .i64 v.want, .int .i64 v.down, .int .i64 v.over, .int .i64 v.next, .int .i64 v.per, .int .i64 v.least, .int .i64 v.most, .int .i64 v.load, .int .i64 v.cool] 50)).alloc (Obj.cells #[.string v.name, .int .i64 v.version, .int .i64 0, .int .i64 0, .int .i64 0, .bool false, .slice none 0 0, .bool false] 47)) := hs1.below ((Below.refl _ _).alloc (Nat.le_refl _) _) hs1.lt
 have HS3 : Hid (Blk w.heap.size #[.string v.name, .int .i64 v.version, .bool v.gone, .int .i64 v.image, .int .i64 v.want, .int .i64 v.down, .int .i64 v.over, .int .i64 v.next, .int .i64 v.per, .int .i64 v.least, .int .i64 v.most, .int .i64 v.load, .int .i64 v.cool] 50 (((w.alloc (Obj.cells #[.string v.name, .int .i64 v.version, .bool v.gone, .int .i64 v.image, .int .i64 v.want, .int .i64 v.down, .int .i64 v.over, .int .i64 v.next, .int .i64 v.per, .int .i64 v.least, .int .i64 v.most, .int .i64 v.load, .int .i64 v.cool] 50)).alloc (Obj.cells #[.string v.name, .int .i64 v.version, .int .i64 0, .int .i64 0, .int .i64 0, .bool false, .slice none 0 0, .bool false] 47)).alloc (Obj.cells #[.string ⟨#[]⟩, .int .i64 0, .int .i64 0, .int .i64 0, .int .i64 0, .bool false, .slice none 0 0, .bool false] 47))) := hs2.below ((Below.refl _ _).alloc (Nat.le_refl _) _) hs2.lt
 have ha2 : Blk (w.heap.size + 1) #[.string v.name, .int .i64 v.version, .int .i64 0, .int .i64 0, .int .i64 0, .bool false, .slice none 0 0, .bool false] 47 ((w.alloc (Obj.cells #[.string v.name, .int .i64 v.version, .bool v.gone, .int .i64 v.image, .int .i64 v.want, .int .i64 v.down, .int .i64 v.over, .int .i64 v.next, .int .i64 v.per, .int .i64 v.least, .int .i64 v.most, .int .i64 v.load, .int .i64 v.cool] 50)).alloc (Obj.cells #[.string v.name, .int .i64 v.version, .int .i64 0, .int .i64 0, .int .i64 0, .bool false, .slice none 0 0, .bool false] 47)) := by
  have := Blk.alloc (w.alloc (Obj.cells #[.string v.name, .int .i64 v.version, .bool v.gone, .int .i64 v.image, .int .i64 v.want, .int .i64 v.down, .int .i64 v.over, .int .i64 v.next, .int .i64 v.per, .int .i64 v.least, .int .i64 v.most, .int .i64 v.load, .int .i64 v.cool] 50)) #[.string v.name, .int .i64 v.version, .int .i64 0, .int .i64 0, .int .i64 0, .bool false, .slice none 0 0, .bool false] 47
  simpa using this
 have HA3 : Hid (Blk (w.heap.size + 1) #[.string v.name, .int .i64 v.version, .int .i64 0, .int .i64 0, .int .i64 0, .bool false, .slice none 0 0, .bool false] 47 (((w.alloc (Obj.cells #[.string v.name, .int .i64 v.version, .bool v.gone, .int .i64 v.image, .int .i64 v.want, .int .i64 v.down, .int .i64 v.over, .int .i64 v.next, .int .i64 v.per, .int .i64 v.least, .int .i64 v.most, .int .i64 v.load, .int .i64 v.cool] 50)).alloc (Obj.cells #[.string v.name, .int .i64 v.version, .int .i64 0, .int .i64 0, .int .i64 0, .bool false, .slice none 0 0, .bool false] 47)).alloc (Obj.cells #[.string ⟨#[]⟩, .int .i64 0, .int .i64 0, .int .i64 0, .int .i64 0, .bool false, .slice none 0 0, .bool false] 47))) := ha2.below ((Below.refl _ _).alloc (Nat.le_refl _) _) ha2.lt
 have HR3 : Hid (Blk (w.heap.size + 1 + 1) #[.string ⟨#[]⟩, .int .i64 0, .int .i64 0, .int .i64 0, .int .i64 0, .bool false, .slice none 0 0, .bool false] 47 (((w.alloc (Obj.cells #[.string v.name, .int .i64 v.version, .bool v.gone, .int .i64 v.image, .int .i64 v.want, .int .i64 v.down, .int .i64 v.over, .int .i64 v.next, .int .i64 v.per, .int .i64 v.least, .int .i64 v.most, .int .i64 v.load, .int .i64 v.cool] 50)).alloc (Obj.cells #[.string v.name, .int .i64 v.version, .int .i64 0, .int .i64 0, .int .i64 0, .bool false, .slice none 0 0, .bool false] 47)).alloc (Obj.cells #[.string ⟨#[]⟩, .int .i64 0, .int .i64 0, .int .i64 0, .int .i64 0, .bool false, .slice none 0 0, .bool false] 47))) := by
  have := Blk.alloc ((w.alloc (Obj.cells #[.string v.name, .int .i64 v.version, .bool v.gone, .int .i64 v.image, .int .i64 v.want, .int .i64 v.down, .int .i64 v.over, .int .i64 v.next, .int .i64 v.per, .int .i64 v.least, .int .i64 v.most, .int .i64 v.load, .int .i64 v.cool] 50)).alloc (Obj.cells #[.string v.name, .int .i64 v.version, .int .i64 0, .int .i64 0, .int .i64 0, .bool false, .slice none 0 0, .bool false] 47)) #[.string ⟨#[]⟩, .int .i64 0, .int .i64 0, .int .i64 0, .int .i64 0, .bool false, .slice none 0 0, .bool false] 47
  show Blk _ _ _ _
  simpa using this
 have hB3 : Below w.heap.size w (((w.alloc (Obj.cells #[.string v.name, .int .i64 v.version, .bool v.gone, .int .i64 v.image, .int .i64 v.want, .int .i64 v.down, .int .i64 v.over, .int .i64 v.next, .int .i64 v.per, .int .i64 v.least, .int .i64 v.most, .int .i64 v.load, .int .i64 v.cool] 50)).alloc (Obj.cells #[.string v.name, .int .i64 v.version, .int .i64 0, .int .i64 0, .int .i64 0, .bool false, .slice none 0 0, .bool false] 47)).alloc (Obj.cells #[.string ⟨#[]⟩, .int .i64 0, .int .i64 0, .int .i64 0, .int .i64 0, .bool false, .slice none 0 0, .bool false] 47)) := by go_grown
 clear hs1 hs2 ha2
 go_enter Tryz.func49, Tryz.ntmps49
 go_upto_region 1 with fail
 generalize ((w.alloc (Obj.cells #[.string v.name, .int .i64 v.version, .bool v.gone, .int .i64 v.image, .int .i64 v.want, .int .i64 v.down, .int .i64 v.over, .int .i64 v.next, .int .i64 v.per, .int .i64 v.least, .int .i64 v.most, .int .i64 v.load, .int .i64 v.cool] 50)).alloc (Obj.cells #[.string v.name, .int .i64 v.version, .int .i64 0, .int .i64 0, .int .i64 0, .bool false, .slice none 0 0, .bool false] 47)).alloc (Obj.cells #[.string ⟨#[]⟩, .int .i64 0, .int .i64 0, .int .i64 0, .int .i64 0, .bool false, .slice none 0 0, .bool false] 47) = w3 at *
 have hgg : w.heap.size < w.heap.size + 1 ∧ w.heap.size + 1 < w.heap.size + 1 + 1 := by omega
 generalize w.heap.size + 1 + 1 = gr at *
 generalize w.heap.size + 1 = ga at *
 go_wp2_with (refine wpList_load_mid rfl 50 _ rfl w.heap.size 0 rfl [.string v.name, .int .i64 v.version, .bool v.gone, .int .i64 v.image, .int .i64 v.want, .int .i64 v.down, .int .i64 v.over, .int .i64 v.next, .int .i64 v.per, .int .i64 v.least, .int .i64 v.most, .int .i64 v.load, .int .i64 v.cool] _ HS3.out.rangeA Tryz.underlying50 rfl isz_Ssv ?_)
 refine (desired_any v _ hn hp).mono ?_
 rintro e w4 ⟨rfl, hb⟩
 have HS4 := Hid.intro (HS3.out.below hb HS3.out.lt)
 have HA4 := Hid.intro (HA3.out.below hb HA3.out.lt)
 have HR4 := Hid.intro (HR3.out.below hb HR3.out.lt)
 have hB4 := hB3.trans (hb.mono hB3.size)
 obtain ⟨_, _, hwt, _, hcl⟩ := hn
 clear hb HS3 HA3 HR3 hB3
 obtain ⟨d, hd⟩ : ∃ d, d = desI v := ⟨_, rfl⟩
 rw [← hd]
 have HD := Hid.intro hd
 clear hd
 have ka5 : w4.cell? ⟨ga, 5, none⟩ = some (.bool false) := HA4.out.cell rfl
 have fz : w4.frozen? ⟨ga, 5, none⟩ = false := HA4.out.frozen 5
 go_upto_region 3 with fail
 clear ka5 fz
 have HS5 := Hid.intro (HS4.out.other (a := ⟨ga, 5, none⟩) (by show _ ≠ ga; omega) (.bool true))
 have HR5 := Hid.intro (HR4.out.other (a := ⟨ga, 5, none⟩) (by show _ ≠ ga; omega) (.bool true))
 have HA5 : Hid (Blk ga #[.string v.name, .int .i64 v.version, .int .i64 0, .int .i64 0, .int .i64 0, .bool true, .slice none 0 0, .bool false] 47 (w4.setCell ⟨ga, 5, none⟩ (.bool true))) := HA4.out.set 5 (.bool true)
 have hB5 : Below w.heap.size w (w4.setCell ⟨ga, 5, none⟩ (.bool true)) := hB4.setCell (by show w.heap.size ≤ ga; omega) _
 clear HS4 HA4 HR4 hB4
 generalize w4.setCell ⟨ga, 5, none⟩ (.bool true) = w5 at *
 have k_want : w5.cell? ⟨w.heap.size, 4, none⟩ = some (.int .i64 v.want) := HS5.out.cell rfl
 have ka3 : w5.cell? ⟨ga, 3, none⟩ = some (.int .i64 0) := HA5.out.cell rfl
 have fz : w5.frozen? ⟨ga, 3, none⟩ = false := HA5.out.frozen 3
 go_upto_region 4 with fail
 clear ka3 fz k_want
 have HS6 := Hid.intro (HS5.out.other (a := ⟨ga, 3, none⟩) (by show _ ≠ ga; omega) (.int .i64 v.want))
 have HR6 := Hid.intro (HR5.out.other (a := ⟨ga, 3, none⟩) (by show _ ≠ ga; omega) (.int .i64 v.want))
 have HA6 : Hid (Blk ga #[.string v.name, .int .i64 v.version, .int .i64 0, .int .i64 v.want, .int .i64 0, .bool true, .slice none 0 0, .bool false] 47 (w5.setCell ⟨ga, 3, none⟩ (.int .i64 v.want))) := HA5.out.set 3 (.int .i64 v.want)
 have hB6 : Below w.heap.size w (w5.setCell ⟨ga, 3, none⟩ (.int .i64 v.want)) := hB5.setCell (by show w.heap.size ≤ ga; omega) _
 clear HS5 HA5 HR5 hB5
 generalize w5.setCell ⟨ga, 3, none⟩ (.int .i64 v.want) = w6 at *
 have k_want : w6.cell? ⟨w.heap.size, 4, none⟩ = some (.int .i64 v.want) := HS6.out.cell rfl
 have k_least : w6.cell? ⟨w.heap.size, 9, none⟩ = some (.int .i64 v.least) := HS6.out.cell rfl
 have k_most : w6.cell? ⟨w.heap.size, 10, none⟩ = some (.int .i64 v.most) := HS6.out.cell rfl
 have k_cool : w6.cell? ⟨w.heap.size, 12, none⟩ = some (.int .i64 v.cool) := HS6.out.cell rfl
 have ka3 : w6.cell? ⟨ga, 3, none⟩ = some (.int .i64 v.want) := HA6.out.cell rfl
 have fz3 : w6.frozen? ⟨ga, 3, none⟩ = false := HA6.out.frozen 3
 have ka4 : w6.cell? ⟨ga, 4, none⟩ = some (.int .i64 0) := HA6.out.cell rfl
 have fz4 : w6.frozen? ⟨ga, 4, none⟩ = false := HA6.out.frozen 4
 have ka5 : w6.cell? ⟨ga, 5, none⟩ = some (.bool true) := HA6.out.cell rfl
 have fz5 : w6.frozen? ⟨ga, 5, none⟩ = false := HA6.out.frozen 5
 by_cases h1 : v.want < v.least
 ·skip
  have HSC : Hid (scA v = ⟨v.name, v.version, 0, v.least, 0, true, [], false⟩) := by
   show _ = _
   unfold scA
   rw [if_pos h1]
  go_upto_region 17 with fail
  clear ka3 fz3 ka4 fz4 ka5 fz5 k_want k_least k_most k_cool
  have HS7 := Hid.intro (HS6.out.other (a := ⟨ga, 3, none⟩) (by show _ ≠ ga; omega) (.int .i64 v.least))
  have HR7 := Hid.intro (HR6.out.other (a := ⟨ga, 3, none⟩) (by show _ ≠ ga; omega) (.int .i64 v.least))
  have HA7 : Hid (Blk ga #[.string v.name, .int .i64 v.version, .int .i64 0, .int .i64 v.least, .int .i64 0, .bool true, .slice none 0 0, .bool false] 47 (w6.setCell ⟨ga, 3, none⟩ (.int .i64 v.least))) := HA6.out.set 3 (.int .i64 v.least)
  have hB7 : Below w.heap.size w (w6.setCell ⟨ga, 3, none⟩ (.int .i64 v.least)) := hB6.setCell (by show w.heap.size ≤ ga; omega) _
  clear HS6 HA6 HR6 hB6
  generalize w6.setCell ⟨ga, 3, none⟩ (.int .i64 v.least) = w7 at *
  have HTS := Hid.intro HR7.out.there
  obtain ⟨wf, HE⟩ : ∃ wf, Hid (wf = w7.setCells gr 0 [.string v.name, .int .i64 v.version, .int .i64 0, .int .i64 v.least, .int .i64 0, .bool true, .slice none 0 0, .bool false]) := ⟨_, rfl⟩
  have HRf : Hid (wf.rangeAt gr 0 [.string v.name, .int .i64 v.version, .int .i64 0, .int .i64 v.least, .int .i64 0, .bool true, .slice none 0 0, .bool false]) := by
   show World.rangeAt _ _ _ _
   rw [HE.out]
   exact World.rangeAt_setCells_same _ _ _ _ HTS.out
  have HBf : Hid (Below w.heap.size w wf) := by
   show Below _ _ _
   rw [HE.out]
   exact below_setCells (by omega) _ _ _ hB7
  go_wp2_with (first | (refine wpList_load_mid rfl 47 _ rfl ga 0 rfl [.string v.name, .int .i64 v.version, .int .i64 0, .int .i64 v.least, .int .i64 0, .bool true, .slice none 0 0, .bool false] _ HA7.out.rangeA Tryz.underlying47 rfl isz_Sac ?_) | (refine wpList_store_to rfl 47 _ _ rfl gr 0 #[.string v.name, .int .i64 v.version, .int .i64 0, .int .i64 v.least, .int .i64 0, .bool true, .slice none 0 0, .bool false] (by first | rfl | (simp [go_sem]; done)) rfl HTS.out isz_Sac (by simp [Value.oneCell']) wf HE.out ?_))
  refine bodyPost_ret (results_cell_mid rfl _ _ gr [.string v.name, .int .i64 v.version, .int .i64 0, .int .i64 v.least, .int .i64 0, .bool true, .slice none 0 0, .bool false] _ rfl HRf.out Tryz.underlying47 rfl isz_Sac) rfl ?_
  rw [HSC.out]
  exact ⟨none, 0, rfl, SliceC.nil, HBf.out⟩
 have h1' : v.least ≤ v.want := by omega
 by_cases h2 : v.most < v.want
 ·skip
  have HSC : Hid (scA v = ⟨v.name, v.version, 0, v.most, 0, true, [], false⟩) := by
   show _ = _
   unfold scA
   rw [if_neg h1, if_pos h2]
  go_upto_region 17 with fail
  clear ka3 fz3 ka4 fz4 ka5 fz5 k_want k_least k_most k_cool
  have HS7 := Hid.intro (HS6.out.other (a := ⟨ga, 3, none⟩) (by show _ ≠ ga; omega) (.int .i64 v.most))
  have HR7 := Hid.intro (HR6.out.other (a := ⟨ga, 3, none⟩) (by show _ ≠ ga; omega) (.int .i64 v.most))
  have HA7 : Hid (Blk ga #[.string v.name, .int .i64 v.version, .int .i64 0, .int .i64 v.most, .int .i64 0, .bool true, .slice none 0 0, .bool false] 47 (w6.setCell ⟨ga, 3, none⟩ (.int .i64 v.most))) := HA6.out.set 3 (.int .i64 v.most)
  have hB7 : Below w.heap.size w (w6.setCell ⟨ga, 3, none⟩ (.int .i64 v.most)) := hB6.setCell (by show w.heap.size ≤ ga; omega) _
  clear HS6 HA6 HR6 hB6
  generalize w6.setCell ⟨ga, 3, none⟩ (.int .i64 v.most) = w7 at *
  have HTS := Hid.intro HR7.out.there
  obtain ⟨wf, HE⟩ : ∃ wf, Hid (wf = w7.setCells gr 0 [.string v.name, .int .i64 v.version, .int .i64 0, .int .i64 v.most, .int .i64 0, .bool true, .slice none 0 0, .bool false]) := ⟨_, rfl⟩
  have HRf : Hid (wf.rangeAt gr 0 [.string v.name, .int .i64 v.version, .int .i64 0, .int .i64 v.most, .int .i64 0, .bool true, .slice none 0 0, .bool false]) := by
   show World.rangeAt _ _ _ _
   rw [HE.out]
   exact World.rangeAt_setCells_same _ _ _ _ HTS.out
  have HBf : Hid (Below w.heap.size w wf) := by
   show Below _ _ _
   rw [HE.out]
   exact below_setCells (by omega) _ _ _ hB7
  go_wp2_with (first | (refine wpList_load_mid rfl 47 _ rfl ga 0 rfl [.string v.name, .int .i64 v.version, .int .i64 0, .int .i64 v.most, .int .i64 0, .bool true, .slice none 0 0, .bool false] _ HA7.out.rangeA Tryz.underlying47 rfl isz_Sac ?_) | (refine wpList_store_to rfl 47 _ _ rfl gr 0 #[.string v.name, .int .i64 v.version, .int .i64 0, .int .i64 v.most, .int .i64 0, .bool true, .slice none 0 0, .bool false] (by first | rfl | (simp [go_sem]; done)) rfl HTS.out isz_Sac (by simp [Value.oneCell']) wf HE.out ?_))
  refine bodyPost_ret (results_cell_mid rfl _ _ gr [.string v.name, .int .i64 v.version, .int .i64 0, .int .i64 v.most, .int .i64 0, .bool true, .slice none 0 0, .bool false] _ rfl HRf.out Tryz.underlying47 rfl isz_Sac) rfl ?_
  rw [HSC.out]
  exact ⟨none, 0, rfl, SliceC.nil, HBf.out⟩
 have h2' : v.want ≤ v.most := by omega
 by_cases h3 : v.want < d
 ·skip
  have HSC : Hid (scA v = ⟨v.name, v.version, 0, d, 0, true, [], false⟩) := by
   show _ = _
   unfold scA
   rw [if_neg h1, if_neg h2, ← HD.out, if_pos h3]
  go_upto_region 17 with fail
  clear ka3 fz3 ka4 fz4 ka5 fz5 k_want k_least k_most k_cool
  have HS7 := Hid.intro (HS6.out.other (a := ⟨ga, 3, none⟩) (by show _ ≠ ga; omega) (.int .i64 d))
  have HR7 := Hid.intro (HR6.out.other (a := ⟨ga, 3, none⟩) (by show _ ≠ ga; omega) (.int .i64 d))
  have HA7 : Hid (Blk ga #[.string v.name, .int .i64 v.version, .int .i64 0, .int .i64 d, .int .i64 0, .bool true, .slice none 0 0, .bool false] 47 (w6.setCell ⟨ga, 3, none⟩ (.int .i64 d))) := HA6.out.set 3 (.int .i64 d)
  have hB7 : Below w.heap.size w (w6.setCell ⟨ga, 3, none⟩ (.int .i64 d)) := hB6.setCell (by show w.heap.size ≤ ga; omega) _
  clear HS6 HA6 HR6 hB6
  generalize w6.setCell ⟨ga, 3, none⟩ (.int .i64 d) = w7 at *
  have HTS := Hid.intro HR7.out.there
  obtain ⟨wf, HE⟩ : ∃ wf, Hid (wf = w7.setCells gr 0 [.string v.name, .int .i64 v.version, .int .i64 0, .int .i64 d, .int .i64 0, .bool true, .slice none 0 0, .bool false]) := ⟨_, rfl⟩
  have HRf : Hid (wf.rangeAt gr 0 [.string v.name, .int .i64 v.version, .int .i64 0, .int .i64 d, .int .i64 0, .bool true, .slice none 0 0, .bool false]) := by
   show World.rangeAt _ _ _ _
   rw [HE.out]
   exact World.rangeAt_setCells_same _ _ _ _ HTS.out
  have HBf : Hid (Below w.heap.size w wf) := by
   show Below _ _ _
   rw [HE.out]
   exact below_setCells (by omega) _ _ _ hB7
  go_wp2_with (first | (refine wpList_load_mid rfl 47 _ rfl ga 0 rfl [.string v.name, .int .i64 v.version, .int .i64 0, .int .i64 d, .int .i64 0, .bool true, .slice none 0 0, .bool false] _ HA7.out.rangeA Tryz.underlying47 rfl isz_Sac ?_) | (refine wpList_store_to rfl 47 _ _ rfl gr 0 #[.string v.name, .int .i64 v.version, .int .i64 0, .int .i64 d, .int .i64 0, .bool true, .slice none 0 0, .bool false] (by first | rfl | (simp [go_sem]; done)) rfl HTS.out isz_Sac (by simp [Value.oneCell']) wf HE.out ?_))
  refine bodyPost_ret (results_cell_mid rfl _ _ gr [.string v.name, .int .i64 v.version, .int .i64 0, .int .i64 d, .int .i64 0, .bool true, .slice none 0 0, .bool false] _ rfl HRf.out Tryz.underlying47 rfl isz_Sac) rfl ?_
  rw [HSC.out]
  exact ⟨none, 0, rfl, SliceC.nil, HBf.out⟩
 have h3' : d ≤ v.want := by omega
 by_cases h4 : d < v.want
 ·skip
  by_cases h5 : 3 ≤ v.cool
  ·skip
   have HWR : IntKind.i64.wrap (v.want - 1) = v.want - 1 := by rw [IntKind.wrap_i64]; omega
   have HSC : Hid (scA v = ⟨v.name, v.version, 0, v.want - 1, 0, true, [], false⟩) := by
    show _ = _
    unfold scA
    rw [if_neg h1, if_neg h2, ← HD.out, if_neg h3, if_pos h4, if_pos h5]
   go_upto_region 17 with fail
   clear ka3 fz3 ka4 fz4 ka5 fz5 k_want k_least k_most k_cool
   have HS7 := Hid.intro (HS6.out.other (a := ⟨ga, 3, none⟩) (by show _ ≠ ga; omega) (.int .i64 (v.want - 1)))
   have HR7 := Hid.intro (HR6.out.other (a := ⟨ga, 3, none⟩) (by show _ ≠ ga; omega) (.int .i64 (v.want - 1)))
   have HA7 : Hid (Blk ga #[.string v.name, .int .i64 v.version, .int .i64 0, .int .i64 (v.want - 1), .int .i64 0, .bool true, .slice none 0 0, .bool false] 47 (w6.setCell ⟨ga, 3, none⟩ (.int .i64 (v.want - 1)))) := HA6.out.set 3 (.int .i64 (v.want - 1))
   have hB7 : Below w.heap.size w (w6.setCell ⟨ga, 3, none⟩ (.int .i64 (v.want - 1))) := hB6.setCell (by show w.heap.size ≤ ga; omega) _
   clear HS6 HA6 HR6 hB6
   generalize w6.setCell ⟨ga, 3, none⟩ (.int .i64 (v.want - 1)) = w7 at *
   have HTS := Hid.intro HR7.out.there
   obtain ⟨wf, HE⟩ : ∃ wf, Hid (wf = w7.setCells gr 0 [.string v.name, .int .i64 v.version, .int .i64 0, .int .i64 (v.want - 1), .int .i64 0, .bool true, .slice none 0 0, .bool false]) := ⟨_, rfl⟩
   have HRf : Hid (wf.rangeAt gr 0 [.string v.name, .int .i64 v.version, .int .i64 0, .int .i64 (v.want - 1), .int .i64 0, .bool true, .slice none 0 0, .bool false]) := by
    show World.rangeAt _ _ _ _
    rw [HE.out]
    exact World.rangeAt_setCells_same _ _ _ _ HTS.out
   have HBf : Hid (Below w.heap.size w wf) := by
    show Below _ _ _
    rw [HE.out]
    exact below_setCells (by omega) _ _ _ hB7
   go_wp2_with (first | (refine wpList_load_mid rfl 47 _ rfl ga 0 rfl [.string v.name, .int .i64 v.version, .int .i64 0, .int .i64 (v.want - 1), .int .i64 0, .bool true, .slice none 0 0, .bool false] _ HA7.out.rangeA Tryz.underlying47 rfl isz_Sac ?_) | (refine wpList_store_to rfl 47 _ _ rfl gr 0 #[.string v.name, .int .i64 v.version, .int .i64 0, .int .i64 (v.want - 1), .int .i64 0, .bool true, .slice none 0 0, .bool false] (by first | rfl | (simp [go_sem]; done)) rfl HTS.out isz_Sac (by simp [Value.oneCell']) wf HE.out ?_))
   refine bodyPost_ret (results_cell_mid rfl _ _ gr [.string v.name, .int .i64 v.version, .int .i64 0, .int .i64 (v.want - 1), .int .i64 0, .bool true, .slice none 0 0, .bool false] _ rfl HRf.out Tryz.underlying47 rfl isz_Sac) rfl ?_
   rw [HSC.out]
   exact ⟨none, 0, rfl, SliceC.nil, HBf.out⟩
  ·have h5' : v.cool < 3 := by omega
   have HWR : IntKind.i64.wrap (v.cool + 1) = v.cool + 1 := by rw [IntKind.wrap_i64]; omega
   have HSC : Hid (scA v = ⟨v.name, v.version, 0, v.want, v.cool + 1, true, [], false⟩) := by
    show _ = _
    unfold scA
    rw [if_neg h1, if_neg h2, ← HD.out, if_neg h3, if_pos h4, if_neg h5]
   go_upto_region 17 with fail
   clear ka3 fz3 ka4 fz4 ka5 fz5 k_want k_least k_most k_cool
   have HS7 := Hid.intro (HS6.out.other (a := ⟨ga, 4, none⟩) (by show _ ≠ ga; omega) (.int .i64 (v.cool + 1)))
   have HR7 := Hid.intro (HR6.out.other (a := ⟨ga, 4, none⟩) (by show _ ≠ ga; omega) (.int .i64 (v.cool + 1)))
   have HA7 : Hid (Blk ga #[.string v.name, .int .i64 v.version, .int .i64 0, .int .i64 v.want, .int .i64 (v.cool + 1), .bool true, .slice none 0 0, .bool false] 47 (w6.setCell ⟨ga, 4, none⟩ (.int .i64 (v.cool + 1)))) := HA6.out.set 4 (.int .i64 (v.cool + 1))
   have hB7 : Below w.heap.size w (w6.setCell ⟨ga, 4, none⟩ (.int .i64 (v.cool + 1))) := hB6.setCell (by show w.heap.size ≤ ga; omega) _
   clear HS6 HA6 HR6 hB6
   generalize w6.setCell ⟨ga, 4, none⟩ (.int .i64 (v.cool + 1)) = w7 at *
   have HTS := Hid.intro HR7.out.there
   obtain ⟨wf, HE⟩ : ∃ wf, Hid (wf = w7.setCells gr 0 [.string v.name, .int .i64 v.version, .int .i64 0, .int .i64 v.want, .int .i64 (v.cool + 1), .bool true, .slice none 0 0, .bool false]) := ⟨_, rfl⟩
   have HRf : Hid (wf.rangeAt gr 0 [.string v.name, .int .i64 v.version, .int .i64 0, .int .i64 v.want, .int .i64 (v.cool + 1), .bool true, .slice none 0 0, .bool false]) := by
    show World.rangeAt _ _ _ _
    rw [HE.out]
    exact World.rangeAt_setCells_same _ _ _ _ HTS.out
   have HBf : Hid (Below w.heap.size w wf) := by
    show Below _ _ _
    rw [HE.out]
    exact below_setCells (by omega) _ _ _ hB7
   go_wp2_with (first | (refine wpList_load_mid rfl 47 _ rfl ga 0 rfl [.string v.name, .int .i64 v.version, .int .i64 0, .int .i64 v.want, .int .i64 (v.cool + 1), .bool true, .slice none 0 0, .bool false] _ HA7.out.rangeA Tryz.underlying47 rfl isz_Sac ?_) | (refine wpList_store_to rfl 47 _ _ rfl gr 0 #[.string v.name, .int .i64 v.version, .int .i64 0, .int .i64 v.want, .int .i64 (v.cool + 1), .bool true, .slice none 0 0, .bool false] (by first | rfl | (simp [go_sem]; done)) rfl HTS.out isz_Sac (by simp [Value.oneCell']) wf HE.out ?_))
   refine bodyPost_ret (results_cell_mid rfl _ _ gr [.string v.name, .int .i64 v.version, .int .i64 0, .int .i64 v.want, .int .i64 (v.cool + 1), .bool true, .slice none 0 0, .bool false] _ rfl HRf.out Tryz.underlying47 rfl isz_Sac) rfl ?_
   rw [HSC.out]
   exact ⟨none, 0, rfl, SliceC.nil, HBf.out⟩
 have h4' : v.want ≤ d := by omega
 by_cases h6 : v.cool = 0
 ·skip
  have HSC : Hid (scA v = ⟨v.name, v.version, 0, 0, 0, false, [], false⟩) := by
   show _ = _
   unfold scA
   rw [if_neg h1, if_neg h2, ← HD.out, if_neg h3, if_neg h4, if_pos h6]
  have h6b : (v.cool == 0) = true := by rw [h6]; rfl
  go_upto_region 16 with fail
  clear ka3 fz3 ka4 fz4 ka5 fz5 k_want k_least k_most k_cool
  have HS7 := Hid.intro (HS6.out.other (a := ⟨ga, 5, none⟩) (by show _ ≠ ga; omega) (.bool false))
  have HR7 := Hid.intro (HR6.out.other (a := ⟨ga, 5, none⟩) (by show _ ≠ ga; omega) (.bool false))
  have HA7 : Hid (Blk ga #[.string v.name, .int .i64 v.version, .int .i64 0, .int .i64 v.want, .int .i64 0, .bool false, .slice none 0 0, .bool false] 47 (w6.setCell ⟨ga, 5, none⟩ (.bool false))) := HA6.out.set 5 (.bool false)
  have hB7 : Below w.heap.size w (w6.setCell ⟨ga, 5, none⟩ (.bool false)) := hB6.setCell (by show w.heap.size ≤ ga; omega) _
  clear HS6 HA6 HR6 hB6
  generalize w6.setCell ⟨ga, 5, none⟩ (.bool false) = w7 at *
  have ka3 : w7.cell? ⟨ga, 3, none⟩ = some (.int .i64 v.want) := HA7.out.cell rfl
  have fz3 : w7.frozen? ⟨ga, 3, none⟩ = false := HA7.out.frozen 3
  go_upto_region 17 with fail
  clear ka3 fz3
  have HS8 := Hid.intro (HS7.out.other (a := ⟨ga, 3, none⟩) (by show _ ≠ ga; omega) (.int .i64 0))
  have HR8 := Hid.intro (HR7.out.other (a := ⟨ga, 3, none⟩) (by show _ ≠ ga; omega) (.int .i64 0))
  have HA8 : Hid (Blk ga #[.string v.name, .int .i64 v.version, .int .i64 0, .int .i64 0, .int .i64 0, .bool false, .slice none 0 0, .bool false] 47 (w7.setCell ⟨ga, 3, none⟩ (.int .i64 0))) := HA7.out.set 3 (.int .i64 0)
  have hB8 : Below w.heap.size w (w7.setCell ⟨ga, 3, none⟩ (.int .i64 0)) := hB7.setCell (by show w.heap.size ≤ ga; omega) _
  clear HS7 HA7 HR7 hB7
  generalize w7.setCell ⟨ga, 3, none⟩ (.int .i64 0) = w8 at *
  have HTS := Hid.intro HR8.out.there
  obtain ⟨wf, HE⟩ : ∃ wf, Hid (wf = w8.setCells gr 0 [.string v.name, .int .i64 v.version, .int .i64 0, .int .i64 0, .int .i64 0, .bool false, .slice none 0 0, .bool false]) := ⟨_, rfl⟩
  have HRf : Hid (wf.rangeAt gr 0 [.string v.name, .int .i64 v.version, .int .i64 0, .int .i64 0, .int .i64 0, .bool false, .slice none 0 0, .bool false]) := by
   show World.rangeAt _ _ _ _
   rw [HE.out]
   exact World.rangeAt_setCells_same _ _ _ _ HTS.out
  have HBf : Hid (Below w.heap.size w wf) := by
   show Below _ _ _
   rw [HE.out]
   exact below_setCells (by omega) _ _ _ hB8
  go_wp2_with (first | (refine wpList_load_mid rfl 47 _ rfl ga 0 rfl [.string v.name, .int .i64 v.version, .int .i64 0, .int .i64 0, .int .i64 0, .bool false, .slice none 0 0, .bool false] _ HA8.out.rangeA Tryz.underlying47 rfl isz_Sac ?_) | (refine wpList_store_to rfl 47 _ _ rfl gr 0 #[.string v.name, .int .i64 v.version, .int .i64 0, .int .i64 0, .int .i64 0, .bool false, .slice none 0 0, .bool false] (by first | rfl | (simp [go_sem]; done)) rfl HTS.out isz_Sac (by simp [Value.oneCell']) wf HE.out ?_))
  refine bodyPost_ret (results_cell_mid rfl _ _ gr [.string v.name, .int .i64 v.version, .int .i64 0, .int .i64 0, .int .i64 0, .bool false, .slice none 0 0, .bool false] _ rfl HRf.out Tryz.underlying47 rfl isz_Sac) rfl ?_
  rw [HSC.out]
  exact ⟨none, 0, rfl, SliceC.nil, HBf.out⟩
 ·skip
  have HSC : Hid (scA v = ⟨v.name, v.version, 0, v.want, 0, true, [], false⟩) := by
   show _ = _
   unfold scA
   rw [if_neg h1, if_neg h2, ← HD.out, if_neg h3, if_neg h4, if_neg h6]
  have h6b : (v.cool == 0) = false := by simpa using h6
  go_upto_region 17 with fail
  clear ka3 fz3 ka4 fz4 ka5 fz5 k_want k_least k_most k_cool
  have HTS := Hid.intro HR6.out.there
  obtain ⟨wf, HE⟩ : ∃ wf, Hid (wf = w6.setCells gr 0 [.string v.name, .int .i64 v.version, .int .i64 0, .int .i64 v.want, .int .i64 0, .bool true, .slice none 0 0, .bool false]) := ⟨_, rfl⟩
  have HRf : Hid (wf.rangeAt gr 0 [.string v.name, .int .i64 v.version, .int .i64 0, .int .i64 v.want, .int .i64 0, .bool true, .slice none 0 0, .bool false]) := by
   show World.rangeAt _ _ _ _
   rw [HE.out]
   exact World.rangeAt_setCells_same _ _ _ _ HTS.out
  have HBf : Hid (Below w.heap.size w wf) := by
   show Below _ _ _
   rw [HE.out]
   exact below_setCells (by omega) _ _ _ hB6
  go_wp2_with (first | (refine wpList_load_mid rfl 47 _ rfl ga 0 rfl [.string v.name, .int .i64 v.version, .int .i64 0, .int .i64 v.want, .int .i64 0, .bool true, .slice none 0 0, .bool false] _ HA6.out.rangeA Tryz.underlying47 rfl isz_Sac ?_) | (refine wpList_store_to rfl 47 _ _ rfl gr 0 #[.string v.name, .int .i64 v.version, .int .i64 0, .int .i64 v.want, .int .i64 0, .bool true, .slice none 0 0, .bool false] (by first | rfl | (simp [go_sem]; done)) rfl HTS.out isz_Sac (by simp [Value.oneCell']) wf HE.out ?_))
  refine bodyPost_ret (results_cell_mid rfl _ _ gr [.string v.name, .int .i64 v.version, .int .i64 0, .int .i64 v.want, .int .i64 0, .bool true, .slice none 0 0, .bool false] _ rfl HRf.out Tryz.underlying47 rfl isz_Sac) rfl ?_
  rw [HSC.out]
  exact ⟨none, 0, rfl, SliceC.nil, HBf.out⟩

end Go.Proofs.YtnggdpjfmpjlhaaGreat
