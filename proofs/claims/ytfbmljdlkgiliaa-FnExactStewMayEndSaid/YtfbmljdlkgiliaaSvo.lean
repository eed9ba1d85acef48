/-
  The service of a copy, by the program. Made by mksd1.py.
-/
import Derived.Test.YtfbmljdlkgiliaaSi3
import Derived.Test.YtfbmljdlkgiliaaBls
namespace Go.Proofs.Ytfbmljdlkgiliaa
open Go.RowKit

/-- the service of a copy -/
def svO (x : Sbk) (c : Scp) : Ssv := (x.services.find? (fun b => decide (b.name = c.service))).getD ⟨⟨#[]⟩, 0, false, 0, 0, 0, 0, 0, 0, 0, 0, 0, 0⟩

set_option maxHeartbeats 4000000 in
set_option maxRecDepth 100000 in
theorem serviceOf_any (x : Sbk) (a1 : Option Addr) (c1 : Nat) (b2 o2 c2 : Nat) (a3 : Option Addr) (c3 : Nat) (p m n lo : Nat) (c : Scp) (w : World) (hF : FndS x a1 c1 (some ⟨b2, o2, none⟩) c2 a3 c3 p m n lo w) (hz : c.service.size ≤ maxLen) (hu : ∀ (j k : Nat) u v, x.services[j]? = some u → x.services[k]? = some v → u.name = v.name → j = k) :
    Calls Try.prog 43 #[.pointer (some ⟨p, 0, none⟩), .agg #[.string c.service, .int .i64 c.number, .int .i64 c.version, .int .i64 c.image, .int .i64 c.state, .bool c.ending, .string c.berth]] w fun e w' => e = .returned (.agg #[.string (svO x c).name, .int .i64 (svO x c).version, .bool (svO x c).gone, .int .i64 (svO x c).image, .int .i64 (svO x c).want, .int .i64 (svO x c).down, .int .i64 (svO x c).over, .int .i64 (svO x c).next, .int .i64 (svO x c).per, .int .i64 (svO x c).least, .int .i64 (svO x c).most, .int .i64 (svO x c).load, .int .i64 (svO x c).cool]) ∧ Below w.heap.size w w' := by
  have hB2 : Below w.heap.size w ((w.alloc (Obj.cells #[.string c.service, .int .i64 c.number, .int .i64 c.version, .int .i64 c.image, .int .i64 c.state, .bool c.ending, .string c.berth] 48)).alloc (Obj.cells #[.string ⟨#[]⟩, .int .i64 0, .bool false, .int .i64 0, .int .i64 0, .int .i64 0, .int .i64 0, .int .i64 0, .int .i64 0, .int .i64 0, .int .i64 0, .int .i64 0, .int .i64 0] 65)) := by go_grown
  have HC0 : Blk w.heap.size #[.string c.service, .int .i64 c.number, .int .i64 c.version, .int .i64 c.image, .int .i64 c.state, .bool c.ending, .string c.berth] 48 (w.alloc (Obj.cells #[.string c.service, .int .i64 c.number, .int .i64 c.version, .int .i64 c.image, .int .i64 c.state, .bool c.ending, .string c.berth] 48)) := Blk.alloc _ _ _
  have HC : Hid (Blk w.heap.size #[.string c.service, .int .i64 c.number, .int .i64 c.version, .int .i64 c.image, .int .i64 c.state, .bool c.ending, .string c.berth] 48 ((w.alloc (Obj.cells #[.string c.service, .int .i64 c.number, .int .i64 c.version, .int .i64 c.image, .int .i64 c.state, .bool c.ending, .string c.berth] 48)).alloc (Obj.cells #[.string ⟨#[]⟩, .int .i64 0, .bool false, .int .i64 0, .int .i64 0, .int .i64 0, .int .i64 0, .int .i64 0, .int .i64 0, .int .i64 0, .int .i64 0, .int .i64 0, .int .i64 0] 65))) := HC0.below ((Below.refl _ _).alloc (Nat.le_refl _) _) HC0.lt
  have HZ2 : Hid (Blk (w.heap.size + 1) #[.string ⟨#[]⟩, .int .i64 0, .bool false, .int .i64 0, .int .i64 0, .int .i64 0, .int .i64 0, .int .i64 0, .int .i64 0, .int .i64 0, .int .i64 0, .int .i64 0, .int .i64 0] 65 ((w.alloc (Obj.cells #[.string c.service, .int .i64 c.number, .int .i64 c.version, .int .i64 c.image, .int .i64 c.state, .bool c.ending, .string c.berth] 48)).alloc (Obj.cells #[.string ⟨#[]⟩, .int .i64 0, .bool false, .int .i64 0, .int .i64 0, .int .i64 0, .int .i64 0, .int .i64 0, .int .i64 0, .int .i64 0, .int .i64 0, .int .i64 0, .int .i64 0] 65))) := by
    have := Blk.alloc (w.alloc (Obj.cells #[.string c.service, .int .i64 c.number, .int .i64 c.version, .int .i64 c.image, .int .i64 c.state, .bool c.ending, .string c.berth] 48)) #[.string ⟨#[]⟩, .int .i64 0, .bool false, .int .i64 0, .int .i64 0, .int .i64 0, .int .i64 0, .int .i64 0, .int .i64 0, .int .i64 0, .int .i64 0, .int .i64 0, .int .i64 0] 65
    show Blk _ _ _ _
    simpa using this
  have HF2 := Hid.intro (hF.below hB2)
  have HU := Hid.intro hu
  have HSZ := Hid.intro hz
  clear HC0 hF hu hz
  go_enter Try.func43, Try.ntmps43
  go_upto_region 1 with fail
  generalize (w.alloc (Obj.cells #[.string c.service, .int .i64 c.number, .int .i64 c.version, .int .i64 c.image, .int .i64 c.state, .bool c.ending, .string c.berth] 48)).alloc (Obj.cells #[.string ⟨#[]⟩, .int .i64 0, .bool false, .int .i64 0, .int .i64 0, .int .i64 0, .int .i64 0, .int .i64 0, .int .i64 0, .int .i64 0, .int .i64 0, .int .i64 0, .int .i64 0] 65) = w2 at *
  have hr4 : w.heap.size ≤ w.heap.size + 1 := by omega
  generalize w.heap.size + 1 = pr at *
  have k0 : w2.cell? ⟨w.heap.size, 0, none⟩ = some (.string c.service) := HC.out.cell rfl
  go_wp2_with fail
  refine (fservice_any x a1 c1 (some ⟨b2, o2, none⟩) c2 a3 c3 p m n lo c.service _ HF2.out HSZ.out HU.out).mono ?_
  rintro e w4 ⟨hr, hb4⟩
  have HZ4 := Hid.intro (HZ2.out.below hb4 HZ2.out.lt)
  have hB4 := hB2.trans (hb4.mono hB2.size)
  obtain ⟨bb, he⟩ : ∃ bb : Bool, e = .returned (.tuple #[.agg #[.string (svO x c).name, .int .i64 (svO x c).version, .bool (svO x c).gone, .int .i64 (svO x c).image, .int .i64 (svO x c).want, .int .i64 (svO x c).down, .int .i64 (svO x c).over, .int .i64 (svO x c).next, .int .i64 (svO x c).per, .int .i64 (svO x c).least, .int .i64 (svO x c).most, .int .i64 (svO x c).load, .int .i64 (svO x c).cool], .bool bb]) := by
    rcases hr with ⟨v, hf, he⟩ | ⟨hf, he⟩
    · have hsv : svO x c = v := by unfold svO; rw [hf]; rfl
      exact ⟨true, by rw [hsv]; exact he⟩
    · have hsv : svO x c = ⟨⟨#[]⟩, 0, false, 0, 0, 0, 0, 0, 0, 0, 0, 0, 0⟩ := by unfold svO; rw [hf]; rfl
      exact ⟨false, by rw [hsv]; exact he⟩
  subst he
  clear hr hb4 HZ2 hB2 HF2 HU HSZ HC k0
  generalize hUE : svO x c = u at *
  have HUE := Hid.intro hUE
  clear hUE
  have hza : Blk w4.heap.size #[.string ⟨#[]⟩, .int .i64 0, .bool false, .int .i64 0, .int .i64 0, .int .i64 0, .int .i64 0, .int .i64 0, .int .i64 0, .int .i64 0, .int .i64 0, .int .i64 0, .int .i64 0] 65 (w4.alloc (Obj.cells #[.string ⟨#[]⟩, .int .i64 0, .bool false, .int .i64 0, .int .i64 0, .int .i64 0, .int .i64 0, .int .i64 0, .int .i64 0, .int .i64 0, .int .i64 0, .int .i64 0, .int .i64 0] 65)) := Blk.alloc _ _ _
  have HTA : Hid ((w4.alloc (Obj.cells #[.string ⟨#[]⟩, .int .i64 0, .bool false, .int .i64 0, .int .i64 0, .int .i64 0, .int .i64 0, .int .i64 0, .int .i64 0, .int .i64 0, .int .i64 0, .int .i64 0, .int .i64 0] 65)).there w4.heap.size 0 13) := hza.there
  obtain ⟨w5, HW5⟩ : ∃ w5, Hid (w5 = (w4.alloc (Obj.cells #[.string ⟨#[]⟩, .int .i64 0, .bool false, .int .i64 0, .int .i64 0, .int .i64 0, .int .i64 0, .int .i64 0, .int .i64 0, .int .i64 0, .int .i64 0, .int .i64 0, .int .i64 0] 65)).setCells w4.heap.size 0 [.string u.name, .int .i64 u.version, .bool u.gone, .int .i64 u.image, .int .i64 u.want, .int .i64 u.down, .int .i64 u.over, .int .i64 u.next, .int .i64 u.per, .int .i64 u.least, .int .i64 u.most, .int .i64 u.load, .int .i64 u.cool]) := ⟨_, rfl⟩
  have HK5 : Hid (Blk w4.heap.size #[.string u.name, .int .i64 u.version, .bool u.gone, .int .i64 u.image, .int .i64 u.want, .int .i64 u.down, .int .i64 u.over, .int .i64 u.next, .int .i64 u.per, .int .i64 u.least, .int .i64 u.most, .int .i64 u.load, .int .i64 u.cool] 65 w5) := by
    show Blk _ _ _ _
    rw [HW5.out]
    exact hza.setAll #[.string u.name, .int .i64 u.version, .bool u.gone, .int .i64 u.image, .int .i64 u.want, .int .i64 u.down, .int .i64 u.over, .int .i64 u.next, .int .i64 u.per, .int .i64 u.least, .int .i64 u.most, .int .i64 u.load, .int .i64 u.cool] rfl
  have hbx : Below w4.heap.size w4 w5 := by
    rw [HW5.out]
    exact below_setCells (Nat.le_refl _) _ _ _ ((Below.refl _ w4).alloc (Nat.le_refl _) _)
  have hB5 : Below w.heap.size w w5 := hB4.trans (hbx.mono hB4.size)
  have HZ5 := Hid.intro (HZ4.out.below hbx HZ4.out.lt)
  clear hza hbx hB4 HZ4
  go_upto_region 2 with (refine wpList_store_to rfl 65 _ _ rfl w4.heap.size 0 #[.string u.name, .int .i64 u.version, .bool u.gone, .int .i64 u.image, .int .i64 u.want, .int .i64 u.down, .int .i64 u.over, .int .i64 u.next, .int .i64 u.per, .int .i64 u.least, .int .i64 u.most, .int .i64 u.load, .int .i64 u.cool] (by first | rfl | (simp [go_sem]; done)) rfl HTA.out isz_Ssv (by simp [Value.oneCell']) w5 HW5.out ?_)
  clear HTA HW5
  generalize w4.heap.size = g5 at *
  obtain ⟨wf, HE⟩ : ∃ wf, Hid (wf = w5.setCells pr 0 [.string u.name, .int .i64 u.version, .bool u.gone, .int .i64 u.image, .int .i64 u.want, .int .i64 u.down, .int .i64 u.over, .int .i64 u.next, .int .i64 u.per, .int .i64 u.least, .int .i64 u.most, .int .i64 u.load, .int .i64 u.cool]) := ⟨_, rfl⟩
  have HRf : Hid (wf.rangeAt pr 0 [.string u.name, .int .i64 u.version, .bool u.gone, .int .i64 u.image, .int .i64 u.want, .int .i64 u.down, .int .i64 u.over, .int .i64 u.next, .int .i64 u.per, .int .i64 u.least, .int .i64 u.most, .int .i64 u.load, .int .i64 u.cool]) := by
    show World.rangeAt _ _ _ _
    rw [HE.out]
    exact World.rangeAt_setCells_same _ _ _ _ HZ5.out.there
  have HBf : Hid (Below w.heap.size w wf) := by
    show Below _ _ _
    rw [HE.out]
    exact below_setCells hr4 _ _ _ hB5
  have HTS := Hid.intro HZ5.out.there
  clear hB5
  go_wp2_with (first | (refine wpList_load_mid rfl 65 _ rfl g5 0 rfl [.string u.name, .int .i64 u.version, .bool u.gone, .int .i64 u.image, .int .i64 u.want, .int .i64 u.down, .int .i64 u.over, .int .i64 u.next, .int .i64 u.per, .int .i64 u.least, .int .i64 u.most, .int .i64 u.load, .int .i64 u.cool] _ HK5.out.rangeA Try.underlying65 rfl isz_Ssv ?_) | (refine wpList_store_to rfl 65 _ _ rfl pr 0 #[.string u.name, .int .i64 u.version, .bool u.gone, .int .i64 u.image, .int .i64 u.want, .int .i64 u.down, .int .i64 u.over, .int .i64 u.next, .int .i64 u.per, .int .i64 u.least, .int .i64 u.most, .int .i64 u.load, .int .i64 u.cool] rfl rfl HTS.out isz_Ssv (by simp [Value.oneCell']) wf HE.out ?_))
  exact bodyPost_ret (results_cell_mid rfl _ _ pr [.string u.name, .int .i64 u.version, .bool u.gone, .int .i64 u.image, .int .i64 u.want, .int .i64 u.down, .int .i64 u.over, .int .i64 u.next, .int .i64 u.per, .int .i64 u.least, .int .i64 u.most, .int .i64 u.load, .int .i64 u.cool] _ rfl HRf.out Try.underlying65 rfl isz_Ssv) rfl ⟨by rw [HUE.out], HBf.out⟩

end Go.Proofs.Ytfbmljdlkgiliaa
