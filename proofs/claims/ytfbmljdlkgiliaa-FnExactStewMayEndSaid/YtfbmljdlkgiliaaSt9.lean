/-
  StewMayEnd, by the specification. Made by mkst9.py.
-/
import Derived.Test.YtfbmljdlkgiliaaSt8
namespace Go.Proofs.Ytfbmljdlkgiliaa
open Go.RowKit

/-- whether a copy may be taken away is answered -/
def MeRes (x : Sbk) (s : ByteArray) (n : Int) (w : World) (e : Ending) (w' : World) : Prop := ∃ t : Bool, e = .returned (.bool t) ∧ (t = true ↔ SVal x ∧ mayB x s n = true) ∧ Below w.heap.size w w'

set_option maxHeartbeats 4000000 in
set_option maxRecDepth 100000 in
theorem specMayEnd_any (x : Sbk) (a1 : Option Addr) (c1 : Nat) (a2 : Option Addr) (c2 : Nat) (a3 : Option Addr) (c3 : Nat) (lo : Nat) (s : ByteArray) (n : Int) (w : World) (n1 : SliceC SsvC 13 lo w a1 x.services) (n2 : SliceC ScpC 7 lo w a2 x.copies) (n3 : SliceC SbtC 2 lo w a3 x.berths) :
    Calls Try.prog 5 #[.agg #[.int .i64 x.now, .slice a1 x.services.length c1, .slice a2 x.copies.length c2, .slice a3 x.berths.length c3], .string s, .int .i64 n] w fun e w' => MeRes x s n w e w' := by
  have HN1 := Hid.intro n1
  have HN2 := Hid.intro n2
  have HN3 := Hid.intro n3
  clear n1 n2 n3
  have HB1 : Hid (Blk w.heap.size #[.int .i64 x.now, .slice a1 x.services.length c1, .slice a2 x.copies.length c2, .slice a3 x.berths.length c3] 33 (w.alloc (Obj.cells #[.int .i64 x.now, .slice a1 x.services.length c1, .slice a2 x.copies.length c2, .slice a3 x.berths.length c3] 33))) := Blk.alloc _ _ _
  have hB1 : Below w.heap.size w (w.alloc (Obj.cells #[.int .i64 x.now, .slice a1 x.services.length c1, .slice a2 x.copies.length c2, .slice a3 x.berths.length c3] 33)) := by go_grown
  go_enter Try.func5, Try.ntmps5
  go_upto_region 1 with fail
  generalize w.alloc (Obj.cells #[.int .i64 x.now, .slice a1 x.services.length c1, .slice a2 x.copies.length c2, .slice a3 x.berths.length c3] 33) = w1 at *
  go_wp2_with (refine wpList_load_mid rfl 33 _ rfl w.heap.size 0 rfl [.int .i64 x.now, .slice a1 x.services.length c1, .slice a2 x.copies.length c2, .slice a3 x.berths.length c3] _ HB1.out.rangeA Try.underlying33 rfl isz_Sbk ?_)
  refine (specSVal_any x a1 c1 a2 c2 a3 c3 lo _ (HN1.out.below SsvC.holds hB1 (Nat.le_refl _)) (HN2.out.below ScpC.holds hB1 (Nat.le_refl _)) (HN3.out.below SbtC.holds hB1 (Nat.le_refl _))).mono ?_
  rintro e w2 ⟨t, rfl, ht, hb⟩
  have HT := Hid.intro ht
  have HB2 := Hid.intro (HB1.out.below hb HB1.out.lt)
  have hB2 := hB1.trans (hb.mono hB1.size)
  clear hb ht HB1 hB1
  cases t with
  | false =>
    go_wp2_with fail
    go_ret
    exact ⟨false, rfl, ⟨fun h => (by cases h), fun h => HT.out.2 h.1⟩, hB2⟩
  | true =>
    have k0 : w2.cell? ⟨w.heap.size, 0, none⟩ = some (.int .i64 x.now) := HB2.out.cell rfl
    have k1 : w2.cell? ⟨w.heap.size, 1, none⟩ = some (.slice a1 x.services.length c1) := HB2.out.cell rfl
    have k2 : w2.cell? ⟨w.heap.size, 2, none⟩ = some (.slice a2 x.copies.length c2) := HB2.out.cell rfl
    have k3 : w2.cell? ⟨w.heap.size, 3, none⟩ = some (.slice a3 x.berths.length c3) := HB2.out.cell rfl
    have HV := Hid.intro (HT.out.1 rfl)
    go_wp2_with fail
    refine (mayEnd20_any x a1 c1 a2 c2 a3 c3 lo s n _ (HN1.out.below SsvC.holds hB2 (Nat.le_refl _)) (HN2.out.below ScpC.holds hB2 (Nat.le_refl _)) (SWk.of HV.out)).mono ?_
    rintro e w3 ⟨rfl, hb⟩
    have hB3 := hB2.trans (hb.mono hB2.size)
    clear hb hB2 HB2 k0 k1 k2 k3
    obtain ⟨q, hq⟩ : ∃ q : Bool, q = mayB x s n := ⟨_, rfl⟩
    have HQ := Hid.intro hq
    rw [← hq]
    clear hq
    go_wp2_with fail
    go_ret
    exact ⟨q, rfl, ⟨fun h => ⟨HV.out, by rw [← HQ.out]; exact h⟩, fun h => by rw [HQ.out]; exact h.2⟩, hB3⟩

end Go.Proofs.Ytfbmljdlkgiliaa
