import Derived.Test.YtebfdgfhadpieaaGreatJ40
import Derived.Test.YtebfdgfhadpieaaGreatL3s
namespace Go.Proofs.YtebfdgfhadpieaaGreat
set_option maxRecDepth 100000
open Go.RowKit Go.WideMaps Go.Maps
def bsC (o : Option (Nat × Brt)) : Int := match o with
 | none => -1
 | some z => ((z.1 : Nat) : Int)
set_option maxHeartbeats 8000000 in
theorem l4Choose_any (lo ci : Nat) (x : Flt) (a1 : Option Addr) (c1 : Nat) (a2 : Option Addr) (c2 : Nat) (a3 : Option Addr) (c3 : Nat) (y : Cpy) (a7 : Option Addr) (c7 : Nat) (w : World) (n1 : SliceC BrtC 6 lo w a1 x.berths) (n3 : SliceC CpyC 12 lo w a3 x.copies) (n7 : SliceC LikC 2 lo w a7 y.likes) (hci : x.copies[ci]? = some y) (hv : validI x = true) (hsel : y.select.size ≤ maxLen) :
  Calls Tryz.prog 14 #[.agg #[.bool x.pack, .slice a1 x.berths.length c1, .slice a2 x.services.length c2, .slice a3 x.copies.length c3], .agg #[.string y.name, .string y.service, .int .i64 y.rank, .int .i64 y.born, .int .i64 y.room, .int .i64 y.hold, .string y.select, .slice a7 y.likes.length c7, .int .i64 y.apart, .string y.near, .string y.fixed, .string y.at_]] w fun e w' => e = .returned (.string (nmC (chT x ci y x.berths.length))) ∧ Below w.heap.size w w' := by
 have N1 := iH n1
 have N3 := iH n3
 have N7 := iH n7
 have HCI := iH hci
 have HV := iH hv
 have HSEL := iH hsel
 have h12 : x.berths.length ≤ 12 := (valid_more hv).1
 clear n1 n3 n7 hci hv hsel
 have HA : Hid (Blk w.heap.size #[.bool x.pack, .slice a1 x.berths.length c1, .slice a2 x.services.length c2, .slice a3 x.copies.length c3] 33 ((w.alloc (Obj.cells #[.bool x.pack, .slice a1 x.berths.length c1, .slice a2 x.services.length c2, .slice a3 x.copies.length c3] 33)).alloc (Obj.cells #[.string y.name, .string y.service, .int .i64 y.rank, .int .i64 y.born, .int .i64 y.room, .int .i64 y.hold, .string y.select, .slice a7 y.likes.length c7, .int .i64 y.apart, .string y.near, .string y.fixed, .string y.at_] 45))) := (Blk.alloc w _ _).below ((Below.refl _ _).alloc nL _) (Blk.alloc w _ _).lt
 have HC : Hid (Blk (w.heap.size + 1) #[.string y.name, .string y.service, .int .i64 y.rank, .int .i64 y.born, .int .i64 y.room, .int .i64 y.hold, .string y.select, .slice a7 y.likes.length c7, .int .i64 y.apart, .string y.near, .string y.fixed, .string y.at_] 45 ((w.alloc (Obj.cells #[.bool x.pack, .slice a1 x.berths.length c1, .slice a2 x.services.length c2, .slice a3 x.copies.length c3] 33)).alloc (Obj.cells #[.string y.name, .string y.service, .int .i64 y.rank, .int .i64 y.born, .int .i64 y.room, .int .i64 y.hold, .string y.select, .slice a7 y.likes.length c7, .int .i64 y.apart, .string y.near, .string y.fixed, .string y.at_] 45))) := by
  have h := Blk.alloc (w.alloc (Obj.cells #[.bool x.pack, .slice a1 x.berths.length c1, .slice a2 x.services.length c2, .slice a3 x.copies.length c3] 33)) #[.string y.name, .string y.service, .int .i64 y.rank, .int .i64 y.born, .int .i64 y.room, .int .i64 y.hold, .string y.select, .slice a7 y.likes.length c7, .int .i64 y.apart, .string y.near, .string y.fixed, .string y.at_] 45
  show Blk _ _ _ _
  simpa using h
 have hB1 : Below w.heap.size w ((w.alloc (Obj.cells #[.bool x.pack, .slice a1 x.berths.length c1, .slice a2 x.services.length c2, .slice a3 x.copies.length c3] 33)).alloc (Obj.cells #[.string y.name, .string y.service, .int .i64 y.rank, .int .i64 y.born, .int .i64 y.room, .int .i64 y.hold, .string y.select, .slice a7 y.likes.length c7, .int .i64 y.apart, .string y.near, .string y.fixed, .string y.at_] 45)) := by go_grown
 go_enter Tryz.func14, Tryz.ntmps14
 go_upto_region 1 with fail
 generalize ((w.alloc (Obj.cells #[.bool x.pack, .slice a1 x.berths.length c1, .slice a2 x.services.length c2, .slice a3 x.copies.length c3] 33)).alloc (Obj.cells #[.string y.name, .string y.service, .int .i64 y.rank, .int .i64 y.born, .int .i64 y.room, .int .i64 y.hold, .string y.select, .slice a7 y.likes.length c7, .int .i64 y.apart, .string y.near, .string y.fixed, .string y.at_] 45)) = w1 at *
 go_wp2_with fail
 go_loopw [5, 6] (fun bs i wr => ∃ k : Nat, k ≤ x.berths.length ∧ i = .int .i64 ((k : Nat) : Int) ∧ bs = .int .i64 (bsC (chT x ci y k)) ∧ Hid (Blk w.heap.size #[.bool x.pack, .slice a1 x.berths.length c1, .slice a2 x.services.length c2, .slice a3 x.copies.length c3] 33 wr) ∧ Hid (Blk (w.heap.size + 1) #[.string y.name, .string y.service, .int .i64 y.rank, .int .i64 y.born, .int .i64 y.room, .int .i64 y.hold, .string y.select, .slice a7 y.likes.length c7, .int .i64 y.apart, .string y.near, .string y.fixed, .string y.at_] 45 wr) ∧ Below w.heap.size w wr) (fun _ i _ => x.berths.length - (intOf i).toNat)
 case atStart => exact ⟨0, Nat.zero_le _, rfl, rfl, HA, HC, hB1⟩
 case round =>
  clear HA HC hB1
  obtain ⟨k, hk, rfl, rfl, HK0, HK1, hB⟩ := hrel
  have f1 : wr.cell? ⟨w.heap.size, 1, none⟩ = some (.slice a1 x.berths.length c1) := HK0.out.cell rfl
  by_cases hlt : k < x.berths.length
  case neg =>
   have hke : k = x.berths.length := by omega
   subst hke
   cases hch : chT x ci y x.berths.length with
   | none =>
    have HCH := iH hch
    simp only [bsC]
    clear hch
    go_wp2_with fail
    go_ret
    exact ⟨by rw [HCH.out]; rfl, hB⟩
   | some v =>
    have HCH := iH hch
    obtain ⟨hz, hzl⟩ := chT_some hch
    obtain ⟨bb, bo, rfl, _, hbb, hbc⟩ := N1.out.at hz
    obtain ⟨am, cm, t0, _⟩ := hbc
    have g1 : wr.cell? ⟨bb, bo + v.1 * 6, none⟩ = some (.string v.2.name) := (hB.cell (p := ⟨bb, bo + v.1 * 6, none⟩) hbb).trans t0
    have hvn : ¬ ((v.1 : Nat) : Int) < 0 := by omega
    simp only [bsC]
    clear hch hz t0 hbb
    go_wp2_with fail
    go_ret
    exact ⟨by rw [HCH.out]; rfl, hB⟩
  obtain ⟨b, hb⟩ : ∃ b, x.berths[k]? = some b := ⟨x.berths[k], List.getElem?_eq_getElem hlt⟩
  obtain ⟨bb, bo, rfl, _, hbbl, hbc⟩ := N1.out.at hb
  obtain ⟨am, cm, t0, t1, t2, t3, t4, t5, _, _, nM⟩ := hbc
  simp only [Nat.add_zero] at t0
  have HRB : Hid (w.rangeAt bb (bo + k * 6) [.string b.name, .string b.zone, .slice am b.marks.length cm, .int .i64 b.room, .int .i64 b.hold, .bool b.closed]) := range_cons t0 (range_cons t1 (range_cons t2 (range_cons t3 (range_cons t4 (range_cons t5 (range_nil _ _ _))))))
  have NM := iH nM
  have HBI := iH hb
  have HBR := iH ((valid_more HV.out).2.2.1 k b hb)
  clear t0 t1 t2 t3 t4 t5 nM hb
  go_upto_region 5 with fail
  clear f1
  refine wp_region_held_drew (S := fun wy => Blk w.heap.size #[.bool x.pack, .slice (some ⟨bb, bo, none⟩) x.berths.length c1, .slice a2 x.services.length c2, .slice a3 x.copies.length c3] 33 wy ∧ Blk (w.heap.size + 1) #[.string y.name, .string y.service, .int .i64 y.rank, .int .i64 y.born, .int .i64 y.room, .int .i64 y.hold, .string y.select, .slice a7 y.likes.length c7, .int .i64 y.apart, .string y.near, .string y.fixed, .string y.at_] 45 wy ∧ Below w.heap.size w wy) (by kernel_rfl) ⟨HK0.out.drew, HK1.out.drew, hB.drew⟩ (fun hS => ?_)
  clear HK0 HK1 hB
  generalize wr.drew = wa at *
  refine tm 0 14 w.heap.size 0 [.bool x.pack, .slice (some ⟨bb, bo, none⟩) x.berths.length c1, .slice a2 x.services.length c2, .slice a3 x.copies.length c3] rfl (fun _ h => h.1.rangeA) Tryz.underlying33 isz_Flt hS ?_
  simp only [pA,pB,pC,pD]
  refine tk 1 ⟨some 15, _, _, _, _, none⟩ (.agg #[.string y.name, .string y.service, .int .i64 y.rank, .int .i64 y.born, .int .i64 y.room, .int .i64 y.hold, .string y.select, .slice a7 y.likes.length c7, .int .i64 y.apart, .string y.near, .string y.fixed, .string y.at_]) rfl (yieldsIf_load_mid (by rfl) _ _ rfl (w.heap.size + 1) (0) rfl [.string y.name, .string y.service, .int .i64 y.rank, .int .i64 y.born, .int .i64 y.room, .int .i64 y.hold, .string y.select, .slice a7 y.likes.length c7, .int .i64 y.apart, .string y.near, .string y.fixed, .string y.at_] _ (fun _ h => h.2.1.rangeA) Tryz.underlying45 rfl isz_Cpy) hS ?_
  simp only [pA,pB,pC,pD]
  refine tz 2 16 (.pointer (some ⟨w.heap.size, 1, none⟩)) rfl hS ?_
  simp only [pA,pB,pC,pD]
  refine tl 3 17 (.slice (some ⟨bb, bo, none⟩) x.berths.length c1) ⟨w.heap.size, 1, none⟩ rfl (fun wy hy => hy.1.cell rfl) hS ?_
  simp only [pA,pB,pC,pD]
  refine tz 4 18 (.int .i64 ((k : Nat) : Int)) rfl hS ?_
  simp only [pA,pB,pC,pD]
  refine x8 5 19 (.pointer (some ⟨bb, bo + k * 6, none⟩)) rfl hS ?_
  simp only [pA,pB,pC,pD]
  refine tk 6 ⟨some 20, _, _, _, _, none⟩ (.agg #[.string b.name, .string b.zone, .slice am b.marks.length cm, .int .i64 b.room, .int .i64 b.hold, .bool b.closed]) rfl (yieldsIf_load_mid (by rfl) _ _ rfl bb (bo + k * 6) rfl [.string b.name, .string b.zone, .slice am b.marks.length cm, .int .i64 b.room, .int .i64 b.hold, .bool b.closed] _ (fun _ h => (fun j u hj => (h.2.2.cell (p := ⟨bb, bo + k * 6 + j, none⟩) hbbl).trans (HRB.out j u hj))) Tryz.underlying61 rfl isz_Brt) hS ?_
  simp only [pA,pB,pC,pD]
  refine rd1 7 ⟨some 21, _, _, _, _, none⟩ rfl (fun K hK => ?_)
  go_simp
  refine (l3Fits_any lo ci k x (some ⟨bb, bo, none⟩) c1 a2 c2 a3 c3 y a7 c7 b am cm false _ (N1.out.below BrtC.holds hS.2.2 nL) (N3.out.below CpyC.holds hS.2.2 nL) (NM.out.below StrC.holds hS.2.2 nL) HCI.out HBI.out HV.out HSEL.out).mono ?_
  rintro e w5 ⟨rfl, hb5⟩
  refine hK.out _ _ ⟨hS.1.below hb5 hS.1.lt, hS.2.1.below hb5 hS.2.1.lt, hS.2.2.trans (hb5.mono hS.2.2.size)⟩ (fun hS => ?_)
  clear hK K
  clear hb5
  by_cases hfit : fitsI x ci y b false = 0
  case neg =>
   have HNX := iH (chT_skip HBI.out hfit)
   generalize fitsI x ci y b false = fv at *
   have hd : decide (fv = 0) = false := decide_eq_false hfit
   have hd2 : (fv == 0) = false := by simpa using hfit
   refine tz 8 22 (.bool false) rfl hS ?_
   simp only [pA,pB,pC,pD]
   refine tz 9 23 (.bool false) rfl hS ?_
   simp only [pA,pB,pC,pD]
   refine ts 10 24 rfl hS ?_
   simp only [pA,pB,pC,pD]
   refine ts 11 25 rfl hS ?_
   simp only [pA,pB,pC,pD]
   refine ts 12 26 rfl hS ?_
   simp only [pA,pB,pC,pD]
   refine ts 13 27 rfl hS ?_
   simp only [pA,pB,pC,pD]
   refine ts 14 28 rfl hS ?_
   simp only [pA,pB,pC,pD]
   refine ts 15 29 rfl hS ?_
   simp only [pA,pB,pC,pD]
   refine ts 16 30 rfl hS ?_
   simp only [pA,pB,pC,pD]
   refine ts 17 31 rfl hS ?_
   simp only [pA,pB,pC,pD]
   refine ts 18 32 rfl hS ?_
   simp only [pA,pB,pC,pD]
   refine ts 19 33 rfl hS ?_
   simp only [pA,pB,pC,pD]
   refine ts 20 34 rfl hS ?_
   simp only [pA,pB,pC,pD]
   refine ts 21 35 rfl hS ?_
   simp only [pA,pB,pC,pD]
   refine ts 22 36 rfl hS ?_
   simp only [pA,pB,pC,pD]
   refine ts 23 37 rfl hS ?_
   simp only [pA,pB,pC,pD]
   refine ts 24 38 rfl hS ?_
   simp only [pA,pB,pC,pD]
   refine ts 25 39 rfl hS ?_
   simp only [pA,pB,pC,pD]
   refine ts 26 40 rfl hS ?_
   simp only [pA,pB,pC,pD]
   refine ts 27 41 rfl hS ?_
   simp only [pA,pB,pC,pD]
   refine ts 28 42 rfl hS ?_
   simp only [pA,pB,pC,pD]
   refine ts 29 43 rfl hS ?_
   simp only [pA,pB,pC,pD]
   refine ts 30 44 rfl hS ?_
   simp only [pA,pB,pC,pD]
   refine ts 31 45 rfl hS ?_
   simp only [pA,pB,pC,pD]
   refine ts 32 46 rfl hS ?_
   simp only [pA,pB,pC,pD]
   refine tz 33 47 (.bool false) rfl hS ?_
   simp only [pA,pB,pC,pD]
   have HK0 := iH hS.1
   have HK1 := iH hS.2.1
   have hB := hS.2.2
   refine td ?_
   clear hS
   go_wp2_with fail
   go_roundw
   case rel => exact ⟨k + 1, by omega, by first | rfl | go_num, by first | (rw [HNX.out]; done) | (rw [HNX.out]; rfl), HK0, HK1, hB⟩
   case measure => simp [intOf]; omega
  have HNX := iH (chT_take HBI.out hfit)
  rw [hfit]
  clear hfit
  cases hch : chT x ci y k with
  | none =>
   rw [hch] at HNX
   simp only [bsC]
   clear hch
   refine tz 8 22 (.bool true) rfl hS ?_
   simp only [pA,pB,pC,pD]
   refine tz 9 23 (.bool true) rfl hS ?_
   simp only [pA,pB,pC,pD]
   refine tz 10 24 (.int .i64 (-1)) rfl hS ?_
   simp only [pA,pB,pC,pD]
   refine tz 11 25 (.bool true) rfl hS ?_
   simp only [pA,pB,pC,pD]
   refine tz 12 26 (.bool true) rfl hS ?_
   simp only [pA,pB,pC,pD]
   refine ts 13 27 rfl hS ?_
   simp only [pA,pB,pC,pD]
   refine ts 14 28 rfl hS ?_
   simp only [pA,pB,pC,pD]
   refine ts 15 29 rfl hS ?_
   simp only [pA,pB,pC,pD]
   refine ts 16 30 rfl hS ?_
   simp only [pA,pB,pC,pD]
   refine ts 17 31 rfl hS ?_
   simp only [pA,pB,pC,pD]
   refine ts 18 32 rfl hS ?_
   simp only [pA,pB,pC,pD]
   refine ts 19 33 rfl hS ?_
   simp only [pA,pB,pC,pD]
   refine ts 20 34 rfl hS ?_
   simp only [pA,pB,pC,pD]
   refine ts 21 35 rfl hS ?_
   simp only [pA,pB,pC,pD]
   refine ts 22 36 rfl hS ?_
   simp only [pA,pB,pC,pD]
   refine ts 23 37 rfl hS ?_
   simp only [pA,pB,pC,pD]
   refine ts 24 38 rfl hS ?_
   simp only [pA,pB,pC,pD]
   refine ts 25 39 rfl hS ?_
   simp only [pA,pB,pC,pD]
   refine ts 26 40 rfl hS ?_
   simp only [pA,pB,pC,pD]
   refine ts 27 41 rfl hS ?_
   simp only [pA,pB,pC,pD]
   refine ts 28 42 rfl hS ?_
   simp only [pA,pB,pC,pD]
   refine ts 29 43 rfl hS ?_
   simp only [pA,pB,pC,pD]
   refine ts 30 44 rfl hS ?_
   simp only [pA,pB,pC,pD]
   refine ts 31 45 rfl hS ?_
   simp only [pA,pB,pC,pD]
   refine tz 32 46 (.bool true) rfl hS ?_
   simp only [pA,pB,pC,pD]
   refine tz 33 47 (.bool true) rfl hS ?_
   simp only [pA,pB,pC,pD]
   have HK0 := iH hS.1
   have HK1 := iH hS.2.1
   have hB := hS.2.2
   refine td ?_
   clear hS
   go_wp2_with fail
   go_roundw
   case rel => exact ⟨k + 1, by omega, by first | rfl | go_num, by first | (rw [HNX.out]; done) | (rw [HNX.out]; rfl), HK0, HK1, hB⟩
   case measure => simp [intOf]; omega
  | some v =>
   rw [hch] at HNX
   obtain ⟨hz, hzl⟩ := chT_some hch
   obtain ⟨bb', bo', e', _, _, hbc⟩ := N1.out.at hz
   cases e'
   obtain ⟨am2, cm2, t0, t1, t2, t3, t4, t5, _, _, nM⟩ := hbc
   simp only [Nat.add_zero] at t0
   have HRV : Hid (w.rangeAt bb (bo + v.1 * 6) [.string v.2.name, .string v.2.zone, .slice am2 v.2.marks.length cm2, .int .i64 v.2.room, .int .i64 v.2.hold, .bool v.2.closed]) := range_cons t0 (range_cons t1 (range_cons t2 (range_cons t3 (range_cons t4 (range_cons t5 (range_nil _ _ _))))))
   have NV := iH nM
   have HVR := iH ((valid_more HV.out).2.2.1 v.1 v.2 hz)
   have hvl : v.1 < x.berths.length := lt_of_some hz
   have hvn : ¬ ((v.1 : Nat) : Int) < 0 := by omega
   have HLB : Hid (likeTo (fun t => selS t b.marks b.zone) y.likes y.likes.length = n1C y b) := by
    show _ = _
    rw [show (fun t => selS t b.marks b.zone) = (fun t => asksI t b.marks b.zone) from funext fun t => (asks_eq t _ _).symm]
    rfl
   have HLV : Hid (likeTo (fun t => selS t v.2.marks v.2.zone) y.likes y.likes.length = n1C y v.2) := by
    show _ = _
    rw [show (fun t => selS t v.2.marks v.2.zone) = (fun t => asksI t v.2.marks v.2.zone) from funext fun t => (asks_eq t _ _).symm]
    rfl
   obtain ⟨T, hT⟩ : ∃ T, btr x ci y b v.2 = T := ⟨_, rfl⟩
   have HBT : Hid (betterB (n1C y b) ((cntTo (znF x ci y.service b.zone) x.copies.length : Nat) : Int) ((cntTo (bthF x ci y.service b.name) x.copies.length : Nat) : Int) (b.room - y.room - roomTo x ci b.name x.copies.length) (n1C y v.2) ((cntTo (znF x ci y.service v.2.zone) x.copies.length : Nat) : Int) ((cntTo (bthF x ci y.service v.2.name) x.copies.length : Nat) : Int) (v.2.room - y.room - roomTo x ci v.2.name x.copies.length) x.pack = T) := hT
   have HTT := iH hT
   simp only [bsC]
   clear hch hz t0 t1 t2 t3 t4 t5 nM hT
   refine tz 8 22 (.bool true) rfl hS ?_
   simp only [pA,pB,pC,pD]
   refine tz 9 23 (.bool true) rfl hS ?_
   simp only [pA,pB,pC,pD]
   refine tz 10 24 (.int .i64 ((v.1 : Nat) : Int)) rfl hS ?_
   simp only [pA,pB,pC,pD]
   refine x8 11 25 (.bool false) rfl hS ?_
   simp only [pA,pB,pC,pD]
   refine tz 12 26 (.bool false) rfl hS ?_
   simp only [pA,pB,pC,pD]
   refine tm 13 27 w.heap.size 0 [.bool x.pack, .slice (some ⟨bb, bo, none⟩) x.berths.length c1, .slice a2 x.services.length c2, .slice a3 x.copies.length c3] rfl (fun _ h => h.1.rangeA) Tryz.underlying33 isz_Flt hS ?_
   simp only [pA,pB,pC,pD]
   refine tk 14 ⟨some 28, _, _, _, _, some (12, false)⟩ (.agg #[.string y.name, .string y.service, .int .i64 y.rank, .int .i64 y.born, .int .i64 y.room, .int .i64 y.hold, .string y.select, .slice a7 y.likes.length c7, .int .i64 y.apart, .string y.near, .string y.fixed, .string y.at_]) rfl (yieldsIf_load_mid (by rfl) _ _ rfl (w.heap.size + 1) (0) rfl [.string y.name, .string y.service, .int .i64 y.rank, .int .i64 y.born, .int .i64 y.room, .int .i64 y.hold, .string y.select, .slice a7 y.likes.length c7, .int .i64 y.apart, .string y.near, .string y.fixed, .string y.at_] _ (fun _ h => h.2.1.rangeA) Tryz.underlying45 rfl isz_Cpy) hS ?_
   simp only [pA,pB,pC,pD]
   refine tz 15 29 (.pointer (some ⟨w.heap.size, 1, none⟩)) rfl hS ?_
   simp only [pA,pB,pC,pD]
   refine tl 16 30 (.slice (some ⟨bb, bo, none⟩) x.berths.length c1) ⟨w.heap.size, 1, none⟩ rfl (fun wy hy => hy.1.cell rfl) hS ?_
   simp only [pA,pB,pC,pD]
   refine tz 17 31 (.int .i64 ((k : Nat) : Int)) rfl hS ?_
   simp only [pA,pB,pC,pD]
   refine x8 18 32 (.pointer (some ⟨bb, bo + k * 6, none⟩)) rfl hS ?_
   simp only [pA,pB,pC,pD]
   refine tk 19 ⟨some 33, _, _, _, _, some (12, false)⟩ (.agg #[.string b.name, .string b.zone, .slice am b.marks.length cm, .int .i64 b.room, .int .i64 b.hold, .bool b.closed]) rfl (yieldsIf_load_mid (by rfl) _ _ rfl bb (bo + k * 6) rfl [.string b.name, .string b.zone, .slice am b.marks.length cm, .int .i64 b.room, .int .i64 b.hold, .bool b.closed] _ (fun _ h => (fun j u hj => (h.2.2.cell (p := ⟨bb, bo + k * 6 + j, none⟩) hbbl).trans (HRB.out j u hj))) Tryz.underlying61 rfl isz_Brt) hS ?_
   simp only [pA,pB,pC,pD]
   refine tm 21 35 w.heap.size 0 [.bool x.pack, .slice (some ⟨bb, bo, none⟩) x.berths.length c1, .slice a2 x.services.length c2, .slice a3 x.copies.length c3] rfl (fun _ h => h.1.rangeA) Tryz.underlying33 isz_Flt hS ?_
   simp only [pA,pB,pC,pD]
   refine tk 22 ⟨some 36, _, _, _, _, some (12, false)⟩ (.agg #[.string y.name, .string y.service, .int .i64 y.rank, .int .i64 y.born, .int .i64 y.room, .int .i64 y.hold, .string y.select, .slice a7 y.likes.length c7, .int .i64 y.apart, .string y.near, .string y.fixed, .string y.at_]) rfl (yieldsIf_load_mid (by rfl) _ _ rfl (w.heap.size + 1) (0) rfl [.string y.name, .string y.service, .int .i64 y.rank, .int .i64 y.born, .int .i64 y.room, .int .i64 y.hold, .string y.select, .slice a7 y.likes.length c7, .int .i64 y.apart, .string y.near, .string y.fixed, .string y.at_] _ (fun _ h => h.2.1.rangeA) Tryz.underlying45 rfl isz_Cpy) hS ?_
   simp only [pA,pB,pC,pD]
   refine tz 23 37 (.pointer (some ⟨w.heap.size, 1, none⟩)) rfl hS ?_
   simp only [pA,pB,pC,pD]
   refine tl 24 38 (.slice (some ⟨bb, bo, none⟩) x.berths.length c1) ⟨w.heap.size, 1, none⟩ rfl (fun wy hy => hy.1.cell rfl) hS ?_
   simp only [pA,pB,pC,pD]
   refine tz 25 39 (.int .i64 ((v.1 : Nat) : Int)) rfl hS ?_
   simp only [pA,pB,pC,pD]
   refine x8 26 40 (.pointer (some ⟨bb, bo + v.1 * 6, none⟩)) rfl hS ?_
   simp only [pA,pB,pC,pD]
   refine tk 27 ⟨some 41, _, _, _, _, some (12, false)⟩ (.agg #[.string v.2.name, .string v.2.zone, .slice am2 v.2.marks.length cm2, .int .i64 v.2.room, .int .i64 v.2.hold, .bool v.2.closed]) rfl (yieldsIf_load_mid (by rfl) _ _ rfl bb (bo + v.1 * 6) rfl [.string v.2.name, .string v.2.zone, .slice am2 v.2.marks.length cm2, .int .i64 v.2.room, .int .i64 v.2.hold, .bool v.2.closed] _ (fun _ h => (fun j u hj => (h.2.2.cell (p := ⟨bb, bo + v.1 * 6 + j, none⟩) hbbl).trans (HRV.out j u hj))) Tryz.underlying61 rfl isz_Brt) hS ?_
   simp only [pA,pB,pC,pD]
   refine tz 29 43 (.pointer (some ⟨w.heap.size, 0, none⟩)) rfl hS ?_
   simp only [pA,pB,pC,pD]
   refine tl 30 44 (.bool x.pack) ⟨w.heap.size, 0, none⟩ rfl (fun wy hy => hy.1.cell rfl) hS ?_
   simp only [pA,pB,pC,pD]
   refine rd1 20 ⟨some 34, _, _, _, _, some (12, false)⟩ rfl (fun K hK => ?_)
   go_simp
   refine (l4Score_any x (some ⟨bb, bo, none⟩) c1 a2 c2 a3 c3 lo ci y a7 c7 b am cm _ (N1.out.below BrtC.holds hS.2.2 nL) (N3.out.below CpyC.holds hS.2.2 nL) (N7.out.below LikC.holds hS.2.2 nL) (NM.out.below StrC.holds hS.2.2 nL) HCI.out (name_ne HBR.out.1) (marks_few HBR.out.2.2.2) (name_short HBR.out.2.1) HV.out HBR.out.2.2.1).mono ?_
   rintro e w6 ⟨rfl, hb6⟩
   refine hK.out _ _ ⟨hS.1.below hb6 hS.1.lt, hS.2.1.below hb6 hS.2.1.lt, hS.2.2.trans (hb6.mono hS.2.2.size)⟩ (fun hS => ?_)
   clear hK K
   clear hb6
   refine rd1 28 ⟨some 42, _, _, _, _, some (12, false)⟩ rfl (fun K hK => ?_)
   go_simp
   refine (l4Score_any x (some ⟨bb, bo, none⟩) c1 a2 c2 a3 c3 lo ci y a7 c7 v.2 am2 cm2 _ (N1.out.below BrtC.holds hS.2.2 nL) (N3.out.below CpyC.holds hS.2.2 nL) (N7.out.below LikC.holds hS.2.2 nL) (NV.out.below StrC.holds hS.2.2 nL) HCI.out (name_ne HVR.out.1) (marks_few HVR.out.2.2.2) (name_short HVR.out.2.1) HV.out HVR.out.2.2.1).mono ?_
   rintro e w7 ⟨rfl, hb7⟩
   refine hK.out _ _ ⟨hS.1.below hb7 hS.1.lt, hS.2.1.below hb7 hS.2.1.lt, hS.2.2.trans (hb7.mono hS.2.2.size)⟩ (fun hS => ?_)
   clear hK K
   clear hb7
   rw [HLB.out, HLV.out]
   refine rd1 31 ⟨some 45, _, _, _, _, some (12, false)⟩ rfl (fun K hK => ?_)
   go_simp
   refine (specBetter_any _ _ _ _ _ _ _ _ x.pack _).mono ?_
   rintro e w8 ⟨rfl, hb8⟩
   refine hK.out _ _ ⟨hS.1.below hb8 hS.1.lt, hS.2.1.below hb8 hS.2.1.lt, hS.2.2.trans (hb8.mono hS.2.2.size)⟩ (fun hS => ?_)
   clear hK K
   clear hb8
   rw [HBT.out]
   refine tz 32 46 (.bool T) rfl hS ?_
   simp only [pA,pB,pC,pD]
   refine tz 33 47 (.bool T) rfl hS ?_
   simp only [pA,pB,pC,pD]
   have HK0 := iH hS.1
   have HK1 := iH hS.2.1
   have hB := hS.2.2
   refine td ?_
   clear hS
   cases T with
   | false =>
    have HNY : Hid (chT x ci y (k + 1) = some v) := by show _ = _; rw [HNX.out]; simp [stepC, HTT.out]
    go_wp2_with fail
    go_roundw
    case rel => exact ⟨k + 1, by omega, by first | rfl | go_num, by first | (rw [HNY.out]; done) | (rw [HNY.out]; rfl), HK0, HK1, hB⟩
    case measure => simp [intOf]; omega
   | true =>
    have HNY : Hid (chT x ci y (k + 1) = some (k, b)) := by show _ = _; rw [HNX.out]; simp [stepC, HTT.out]
    go_wp2_with fail
    go_roundw
    case rel => exact ⟨k + 1, by omega, by first | rfl | go_num, by first | (rw [HNY.out]; done) | (rw [HNY.out]; rfl), HK0, HK1, hB⟩
    case measure => simp [intOf]; omega
set_option maxHeartbeats 4000000 in
theorem specChoose_any (x : Flt) (a1 : Option Addr) (c1 : Nat) (a2 : Option Addr) (c2 : Nat) (a3 : Option Addr) (c3 : Nat) (lo : Nat) (cn : ByteArray) (w : World) (n1 : SliceC BrtC 6 lo w a1 x.berths) (n2 : SliceC SvcC 2 lo w a2 x.services) (n3 : SliceC CpyC 12 lo w a3 x.copies)
  (l1 : x.berths.length ≤ 1048576) (l2 : x.services.length ≤ 1048576) (l3 : x.copies.length ≤ 1048576) :
  Calls Tryz.prog 5 #[.agg #[.bool x.pack, .slice a1 x.berths.length c1, .slice a2 x.services.length c2, .slice a3 x.copies.length c3], .string cn] w fun e w' => e = .returned (.string (chooseR x cn)) ∧ Below w.heap.size w w' := by
 have N1 := iH n1
 have N2 := iH n2
 have N3 := iH n3
 have HE := iH (valid_eq x l3)
 clear n1 n2 n3
 go_enter Tryz.func5, Tryz.ntmps5
 go_wp2_with fail
 have HF0 : Hid (Blk w.heap.size #[.bool x.pack, .slice a1 x.berths.length c1, .slice a2 x.services.length c2, .slice a3 x.copies.length c3] 33 (w.alloc (Obj.cells #[.bool x.pack, .slice a1 x.berths.length c1, .slice a2 x.services.length c2, .slice a3 x.copies.length c3] 33))) := Blk.alloc w _ _
 have HB0 : Hid (Below w.heap.size w (w.alloc (Obj.cells #[.bool x.pack, .slice a1 x.berths.length c1, .slice a2 x.services.length c2, .slice a3 x.copies.length c3] 33))) := (Below.refl _ w).alloc nL _
 generalize w.alloc (Obj.cells #[.bool x.pack, .slice a1 x.berths.length c1, .slice a2 x.services.length c2, .slice a3 x.copies.length c3] 33) = w0 at *
 refine (l2Copy_any x a1 c1 a2 c2 a3 c3 lo cn _ (N3.out.below CpyC.holds HB0.out nL) l3).mono ?_
 rintro e w1 ⟨rfl, hb1⟩
 have HF1 := iH (HF0.out.below hb1 HF0.out.lt)
 have HB1 : Hid (Below w.heap.size w w1) := HB0.out.trans (hb1.mono HB0.out.size)
 clear hb1 HF0 HB0
 have f0 : w1.cell? ⟨w.heap.size, 0, none⟩ = some (.bool x.pack) := HF1.out.cell rfl
 have f1 : w1.cell? ⟨w.heap.size, 1, none⟩ = some (.slice a1 x.berths.length c1) := HF1.out.cell rfl
 have f2 : w1.cell? ⟨w.heap.size, 2, none⟩ = some (.slice a2 x.services.length c2) := HF1.out.cell rfl
 have f3 : w1.cell? ⟨w.heap.size, 3, none⟩ = some (.slice a3 x.copies.length c3) := HF1.out.cell rfl
 go_wp2_with fail
 refine (specValid_any x a1 c1 a2 c2 a3 c3 lo _ (N1.out.below BrtC.holds HB1.out nL) (N2.out.below SvcC.holds HB1.out nL) (N3.out.below CpyC.holds HB1.out nL) l1 l2 l3).mono ?_
 rintro e w3 ⟨rfl, hb3⟩
 have HF3 := iH (HF1.out.below hb3 HF1.out.lt)
 have HB3 : Hid (Below w.heap.size w w3) := HB1.out.trans (hb3.mono HB1.out.size)
 clear hb3 HF1 HB1 f0 f1 f2 f3
 cases hv : validS x with
 | false =>
  have HS := iH (choose_bad (cn := cn) (HE.out.trans hv))
  clear hv
  go_wp2_with fail
  go_ret
  exact ⟨by rw [HS.out]; rfl, HB3.out⟩
 | true =>
  have HV : Hid (validI x = true) := HE.out.trans hv
  obtain ⟨_, k3, _, hcN, _, _⟩ := valid_parts HV.out
  clear hv
  cases hci : lastOf (cpN x) cn x.copies.length with
  | none =>
   have HS := iH (choose_noC hci)
   rw [idxC_no hci]
   clear hci hcN
   go_wp2_with fail
   go_ret
   exact ⟨by rw [HS.out]; rfl, HB3.out⟩
  | some ci =>
   obtain ⟨hic, y, hy, hyn⟩ := idxC_some hcN hci
   clear hyn
   rw [hic]
   have HS := iH (choose_yes HV.out hci hy)
   have HY := iH hy
   have hcl : ci < x.copies.length := lt_of_some hy
   have hcn : ¬ ((ci : Nat) : Int) < 0 := by omega
   obtain ⟨cb, co, rfl, _, hcbl, hcc⟩ := N3.out.at hy
   obtain ⟨a7, c7, q0, q1, q2, q3, q4, q5, q6, q7, q8, q9, q10, q11, z0, z1, z6, z9, z10, z11, z7⟩ := hcc
   simp only [Nat.add_zero] at q0
   have HRC : Hid (w.rangeAt cb (co + ci * 12) [.string y.name, .string y.service, .int .i64 y.rank, .int .i64 y.born, .int .i64 y.room, .int .i64 y.hold, .string y.select, .slice a7 y.likes.length c7, .int .i64 y.apart, .string y.near, .string y.fixed, .string y.at_]) := range_cons q0 (range_cons q1 (range_cons q2 (range_cons q3 (range_cons q4 (range_cons q5 (range_cons q6 (range_cons q7 (range_cons q8 (range_cons q9 (range_cons q10 (range_cons q11 (range_nil _ _ _))))))))))))
   have Z7 := iH z7
   have HSEL := iH z6
   clear hci hcN hy hic q0 q1 q2 q3 q4 q5 q6 q7 q8 q9 q10 q11 z0 z1 z6 z9 z10 z11 z7
   go_upto_region 4 with fail
   refine wp_region_held_drew (S := fun wy => Blk w.heap.size #[.bool x.pack, .slice a1 x.berths.length c1, .slice a2 x.services.length c2, .slice (some ⟨cb, co, none⟩) x.copies.length c3] 33 wy ∧ Below w.heap.size w wy) (by kernel_rfl) ⟨HF3.out.drew, HB3.out.drew⟩ (fun hS => ?_)
   clear HF3 HB3
   generalize w3.drew = wa at *
   refine tm 0 16 w.heap.size 0 [.bool x.pack, .slice a1 x.berths.length c1, .slice a2 x.services.length c2, .slice (some ⟨cb, co, none⟩) x.copies.length c3] rfl (fun _ h => h.1.rangeA) Tryz.underlying33 isz_Flt hS ?_
   simp only [pA,pB,pC,pD]
   refine tz 1 17 (.pointer (some ⟨w.heap.size, 3, none⟩)) rfl hS ?_
   simp only [pA,pB,pC,pD]
   refine tl 2 18 (.slice (some ⟨cb, co, none⟩) x.copies.length c3) ⟨w.heap.size, 3, none⟩ rfl (fun wy hy => hy.1.cell rfl) hS ?_
   simp only [pA,pB,pC,pD]
   refine tz 3 19 (.int .i64 ((ci : Nat) : Int)) rfl hS ?_
   simp only [pA,pB,pC,pD]
   refine x8 4 20 (.pointer (some ⟨cb, co + ci * 12, none⟩)) rfl hS ?_
   simp only [pA,pB,pC,pD]
   refine tk 5 ⟨some 21, _, _, _, _, none⟩ (.agg #[.string y.name, .string y.service, .int .i64 y.rank, .int .i64 y.born, .int .i64 y.room, .int .i64 y.hold, .string y.select, .slice a7 y.likes.length c7, .int .i64 y.apart, .string y.near, .string y.fixed, .string y.at_]) rfl (yieldsIf_load_mid (by rfl) _ _ rfl cb (co + ci * 12) rfl [.string y.name, .string y.service, .int .i64 y.rank, .int .i64 y.born, .int .i64 y.room, .int .i64 y.hold, .string y.select, .slice a7 y.likes.length c7, .int .i64 y.apart, .string y.near, .string y.fixed, .string y.at_] _ (fun _ h => (fun j u hj => (h.2.cell (p := ⟨cb, co + ci * 12 + j, none⟩) hcbl).trans (HRC.out j u hj))) Tryz.underlying45 rfl isz_Cpy) hS ?_
   simp only [pA,pB,pC,pD]
   refine rd1 6 ⟨some 22, _, _, _, _, none⟩ rfl (fun K hK => ?_)
   go_simp
   refine (l4Choose_any lo ci x a1 c1 a2 c2 (some ⟨cb, co, none⟩) c3 y a7 c7 _ (N1.out.below BrtC.holds hS.2 nL) (N3.out.below CpyC.holds hS.2 nL) (Z7.out.below LikC.holds hS.2 nL) HY.out HV.out HSEL.out).mono ?_
   rintro e w5 ⟨rfl, hb5⟩
   refine hK.out _ _ ⟨hS.1.below hb5 hS.1.lt, hS.2.trans (hb5.mono hS.2.size)⟩ (fun hS => ?_)
   clear hK K
   clear hb5
   rw [← HS.out]
   refine tz 7 4 (.string (chooseR x cn)) rfl hS ?_
   simp only [pA,pB,pC,pD]
   have hB := hS.2
   refine td ?_
   clear hS
   go_wp2_with fail
   go_ret
   exact ⟨rfl, hB⟩
end Go.Proofs.YtebfdgfhadpieaaGreat
