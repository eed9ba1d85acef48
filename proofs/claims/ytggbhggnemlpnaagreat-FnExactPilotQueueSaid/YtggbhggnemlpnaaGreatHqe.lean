/-
  The heap of the copies that wait, by the program. Made by mkhqe.py.
-/
import Derived.Test.YtggbhggnemlpnaaGreatHps
import Derived.Test.YtggbhggnemlpnaaGreatHpc
namespace Go.Proofs.YtggbhggnemlpnaaGreat
open Go.RowKit

/-- whether the copy of a place waits -/
def wtB (x : Flt) (i : Nat) : Bool := match x.copies[i]? with
  | some c => decide (c.at_ = ⟨#[]⟩)
  | none => false
/-- the places that wait, up to one -/
def wtTo (x : Flt) (k : Nat) : List Nat := (List.range k).filter (wtB x)
theorem wtTo_yes {x : Flt} {k : Nat} {c : Cpy} (h : x.copies[k]? = some c) (he : c.at_ = ⟨#[]⟩) : wtTo x (k + 1) = wtTo x k ++ [k] := by
  unfold wtTo
  rw [List.range_succ, List.filter_append]
  have : wtB x k = true := by unfold wtB; rw [h]; exact decide_eq_true he
  simp [this]
theorem wtTo_no {x : Flt} {k : Nat} {c : Cpy} (h : x.copies[k]? = some c) (he : ¬ c.at_ = ⟨#[]⟩) : wtTo x (k + 1) = wtTo x k := by
  unfold wtTo
  rw [List.range_succ, List.filter_append]
  have : wtB x k = false := by unfold wtB; rw [h]; exact decide_eq_false he
  simp [this]
theorem wtTo_lt {x : Flt} {k i : Nat} (h : i ∈ wtTo x k) : i < k := List.mem_range.1 (List.mem_filter.1 h).1
theorem wtTo_len (x : Flt) (k : Nat) : (wtTo x k).length ≤ k := by
  have := List.length_filter_le (wtB x) (List.range k)
  simpa [wtTo] using this

/-- the heap that queue answers -/
def QuRes (x : Flt) (a3 : Option Addr) (c3 : Nat) (w : World) (e : Ending) (w' : World) : Prop := ∃ (Bc hb : Nat) (lv : Value) (l : List Nat), e = .returned (.pointer (some ⟨hb, 0, none⟩)) ∧ HpW x a3 c3 w Bc hb lv l w' ∧ Heap (ltF (cfQ x)) l ∧ l.Perm (wtTo x x.copies.length)

set_option maxHeartbeats 8000000 in
set_option maxRecDepth 100000 in
theorem queue_any (x : Flt) (a3 : Option Addr) (c3 lo p : Nat) (w : World) (n3 : SliceC CpyC 12 lo w a3 x.copies) (p3 : w.cell? ⟨p, 3, none⟩ = some (.slice a3 x.copies.length c3)) (hasc : AscN (cpN x)) (l3 : x.copies.length ≤ 1000000) :
    Calls Tryz.prog 30 #[.pointer (some ⟨p, 0, none⟩)] w fun e w' => QuRes x a3 c3 w e w' := by
  have N3 := Hid.intro n3
  have HC := Hid.intro (cmpQ_any x a3 c3 lo w w.heap.size n3)
  have HO := Hid.intro (ltQ x hasc)
  have hpl : p < w.heap.size := block_lt_of_cell p3
  have HX1 : Hid (HpW x a3 c3 w w.heap.size (w.heap.size + 1) (.slice none 0 0) [] ((w.alloc (Obj.cells #[.slice a3 x.copies.length c3] 32)).alloc (Obj.cells #[.slice none 0 0, .func (.func 61) #[] #[.pointer (some ⟨w.heap.size, 0, none⟩)]] 110))) := by
    have hb1 : Blk w.heap.size #[.slice a3 x.copies.length c3] 32 (w.alloc (Obj.cells #[.slice a3 x.copies.length c3] 32)) := Blk.alloc _ _ _
    have hb2 : Below (w.alloc (Obj.cells #[.slice a3 x.copies.length c3] 32)).heap.size (w.alloc (Obj.cells #[.slice a3 x.copies.length c3] 32)) ((w.alloc (Obj.cells #[.slice a3 x.copies.length c3] 32)).alloc (Obj.cells #[.slice none 0 0, .func (.func 61) #[] #[.pointer (some ⟨w.heap.size, 0, none⟩)]] 110)) := (Below.refl _ _).alloc (Nat.le_refl _) _
    have hh : Blk (w.heap.size + 1) #[.slice none 0 0, .func (.func 61) #[] #[.pointer (some ⟨w.heap.size, 0, none⟩)]] 110 ((w.alloc (Obj.cells #[.slice a3 x.copies.length c3] 32)).alloc (Obj.cells #[.slice none 0 0, .func (.func 61) #[] #[.pointer (some ⟨w.heap.size, 0, none⟩)]] 110)) := by
      have := Blk.alloc (w.alloc (Obj.cells #[.slice a3 x.copies.length c3] 32)) #[.slice none 0 0, .func (.func 61) #[] #[.pointer (some ⟨w.heap.size, 0, none⟩)]] 110
      simpa using this
    refine ⟨by go_grown, hb1.below hb2 hb1.lt, hh, World.ownsRow_nil _ _ _ _, (fun g e => by cases e), by omega, by omega, Nat.le_refl _⟩
  clear n3 hasc
  go_enter Tryz.func30, Tryz.ntmps30
  go_wp2_with fail
  generalize (w.alloc (Obj.cells #[.slice a3 x.copies.length c3] 32)).alloc (Obj.cells #[.slice none 0 0, .func (.func 61) #[] #[.pointer (some ⟨w.heap.size, 0, none⟩)]] 110) = w1 at *
  generalize hBc : w.heap.size = Bc at *
  have HBc := Hid.intro hBc
  clear hBc
  go_loopw [17] (fun i wr => ∃ (k : Nat) (lv : Value) (l : List Nat), k ≤ x.copies.length ∧ i = .int .i64 ((k : Nat) : Int) ∧ Hid (HpW x a3 c3 w Bc (Bc + 1) lv l wr) ∧ Hid (Heap (ltF (cfQ x)) l) ∧ Hid (l.Perm (wtTo x k))) (fun i _ => x.copies.length - (intOf i).toNat)
  case atStart => exact ⟨0, .slice none 0 0, [], Nat.zero_le _, rfl, HX1, (fun i _ h => by simp at h), List.Perm.refl _⟩
  case round =>
    clear HX1
    obtain ⟨k, lv, l, hk, rfl, HW, HH, HP⟩ := hrel
    by_cases hlt : k < x.copies.length
    case neg =>
      have HE : Hid (k = x.copies.length) := by show _ = _; omega
      have hki : ((x.copies.length : Nat) : Int) ≤ ((k : Nat) : Int) := by omega
      go_wp2_with fail
      go_ret
      exact ⟨Bc, Bc + 1, lv, l, rfl, HW.out, HH.out, by rw [← HE.out]; exact HP.out⟩
    obtain ⟨c, hck⟩ : ∃ c, x.copies[k]? = some c := ⟨x.copies[k], List.getElem?_eq_getElem hlt⟩
    obtain ⟨cb, co, rfl, _, hcb, hc⟩ := N3.out.at hck
    obtain ⟨la, lc, hrg⟩ := rngCpy hc
    have HRA : Hid (wr.rangeAt cb (co + k * 12) [.string c.name, .string c.service, .int .i64 c.rank, .int .i64 c.born, .int .i64 c.room, .int .i64 c.hold, .string c.select, .slice la c.likes.length lc, .int .i64 c.apart, .string c.near, .string c.fixed, .string c.at_]) := fun j v hj => (HW.out.bel.cell (p := ⟨cb, co + k * 12 + j, none⟩) hcb).trans (hrg j v hj)
    have HK := Hid.intro hck
    clear hck hc hrg
    have hkl : (k : Int) < ((x.copies.length : Nat) : Int) := by omega
    go_upto_region 6 with (first | (refine wpList_load_mid rfl 65 _ rfl cb (co + k * 12) (by first | rfl | (simp [go_sem]; done)) [.string c.name, .string c.service, .int .i64 c.rank, .int .i64 c.born, .int .i64 c.room, .int .i64 c.hold, .string c.select, .slice la c.likes.length lc, .int .i64 c.apart, .string c.near, .string c.fixed, .string c.at_] _ HRA.out Tryz.underlying65 rfl isz_Cpy ?_))
    have HX4 : Hid (Blk wr.heap.size #[.string c.name, .string c.service, .int .i64 c.rank, .int .i64 c.born, .int .i64 c.room, .int .i64 c.hold, .string c.select, .slice la c.likes.length lc, .int .i64 c.apart, .string c.near, .string c.fixed, .string c.at_] 65 (wr.alloc (Obj.cells #[.string c.name, .string c.service, .int .i64 c.rank, .int .i64 c.born, .int .i64 c.room, .int .i64 c.hold, .string c.select, .slice la c.likes.length lc, .int .i64 c.apart, .string c.near, .string c.fixed, .string c.at_] 65))) := Blk.alloc _ _ _
    have HW4 := Hid.intro (HW.out.below (W' := (wr.alloc (Obj.cells #[.string c.name, .string c.service, .int .i64 c.rank, .int .i64 c.born, .int .i64 c.room, .int .i64 c.hold, .string c.select, .slice la c.likes.length lc, .int .i64 c.apart, .string c.near, .string c.fixed, .string c.at_] 65))) ((Below.refl _ wr).alloc (Nat.le_refl _) _))
    clear HW HRA
    generalize wr.heap.size = gx at *
    generalize wr.alloc (Obj.cells #[.string c.name, .string c.service, .int .i64 c.rank, .int .i64 c.born, .int .i64 c.room, .int .i64 c.hold, .string c.select, .slice la c.likes.length lc, .int .i64 c.apart, .string c.near, .string c.fixed, .string c.at_] 65) = w4 at *
    have g11 : w4.cell? ⟨gx, 11, none⟩ = some (.string c.at_) := HX4.out.cell rfl
    by_cases he : c.at_ = ⟨#[]⟩
    case neg =>
      have HE := Hid.intro (wtTo_no HK.out he)
      have hsz : ¬ c.at_.size = 0 := fun e => he (ByteArray.ext (Array.eq_empty_of_size_eq_zero e))
      have hte : c.at_.toList.isEmpty = false := by
        rw [ByteArray.toList_eq]
        cases hl : c.at_.data.toList with
        | nil => exact absurd (by have := congrArg List.length hl; simpa using this) hsz
        | cons _ _ => rfl
      clear he
      go_wp2_with fail
      go_roundw
      case rel => exact ⟨k + 1, lv, l, by omega, by go_num, HW4, HH, by rw [HE.out]; exact HP.out⟩
      case measure => simp [intOf]; omega
    have HE := Hid.intro (wtTo_yes HK.out he)
    rw [he] at g11
    clear he
    go_wp2_with fail
    refine (put_any x _ c3 w Bc (Bc + 1) (List.range x.copies.length) (cfQ x) HO.out lv l k _ HC.out HW4.out (fun b hb => by
      rcases List.mem_append.1 hb with h | h
      · have := wtTo_lt (HP.out.subset h)
        exact List.mem_range.2 (by omega)
      · rw [List.mem_singleton.1 h]
        exact List.mem_range.2 hlt) HH.out (by have h1 := HP.out.length_eq; have h2 := wtTo_len x k; omega)).mono ?_
    rintro e w5 ⟨lv', l', rfl, hw5, hh5, hp5⟩
    have HP5 : Hid (l'.Perm (wtTo x (k + 1))) := by show List.Perm _ _; rw [HE.out]; exact hp5.trans (HP.out.append_right _)
    have HW5 := Hid.intro hw5
    have HH5 := Hid.intro hh5
    clear hw5 hh5 hp5 HW4 HX4 g11
    go_wp2_with fail
    go_roundw
    case rel => exact ⟨k + 1, lv', l', by omega, by go_num, HW5, HH5, HP5⟩
    case measure => simp [intOf]; omega

end Go.Proofs.YtggbhggnemlpnaaGreat
