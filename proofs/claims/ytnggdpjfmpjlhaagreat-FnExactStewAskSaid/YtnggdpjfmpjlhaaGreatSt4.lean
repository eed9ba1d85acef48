import Derived.Test.YtnggdpjfmpjlhaaGreatTkw
import Derived.Test.YtnggdpjfmpjlhaaGreatSt3
namespace Go.Proofs.YtnggdpjfmpjlhaaGreat
open Go.RowKit

theorem rngB {w w' : World} {g o B : Nat} {l : List Value} (h : w.rangeAt g o l) (hb : Below B w w') (hB : g < B) : w'.rangeAt g o l := by
 intro j v hj
 rw [hb.cell (p := ⟨g, _, none⟩) hB]
 exact h j v hj

theorem rngSsv {lo : Nat} {w : World} {b o : Nat} {x : Ssv} (h : SsvC lo w (fun i => w.cell? ⟨b, o + i, none⟩) x) : w.rangeAt b o [.string x.name, .int .i64 x.version, .bool x.gone, .int .i64 x.image, .int .i64 x.want, .int .i64 x.down, .int .i64 x.over, .int .i64 x.next, .int .i64 x.per, .int .i64 x.least, .int .i64 x.most, .int .i64 x.load, .int .i64 x.cool] := by
 obtain ⟨q0, q1, q2, q3, q4, q5, q6, q7, q8, q9, q10, q11, q12, _⟩ := h
 simp only [Nat.add_zero] at q0
 exact range_cons q0 (range_cons q1 (range_cons q2 (range_cons q3 (range_cons q4 (range_cons q5 (range_cons q6 (range_cons q7 (range_cons q8 (range_cons q9 (range_cons q10 (range_cons q11 (range_cons q12 (range_nil _ _ _)))))))))))))

theorem rngSbt {lo : Nat} {w : World} {b o : Nat} {x : Sbt} (h : SbtC lo w (fun i => w.cell? ⟨b, o + i, none⟩) x) : w.rangeAt b o [.string x.name, .bool x.drain] := by
 obtain ⟨q0, q1, _⟩ := h
 simp only [Nat.add_zero] at q0
 exact range_cons q0 (range_cons q1 (range_nil _ _ _))

theorem rngScp {lo : Nat} {w : World} {b o : Nat} {x : Scp} (h : ScpC lo w (fun i => w.cell? ⟨b, o + i, none⟩) x) : w.rangeAt b o [.string x.service, .int .i64 x.number, .int .i64 x.version, .int .i64 x.image, .int .i64 x.state, .bool x.ending, .string x.berth] := by
 obtain ⟨q0, q1, q2, q3, q4, q5, q6, _, _⟩ := h
 simp only [Nat.add_zero] at q0
 exact range_cons q0 (range_cons q1 (range_cons q2 (range_cons q3 (range_cons q4 (range_cons q5 (range_cons q6 (range_nil _ _ _)))))))

structure SVal (x : Sbk) : Prop where
 now : inR x.now 0 1000000 = true
 l1 : x.services.length ≤ 8
 l2 : x.copies.length ≤ 200
 l3 : x.berths.length ≤ 6
 s1 : ∀ (j : Nat) y, x.services[j]? = some y → svB y x.now = true
 s2 : ∀ (j : Nat) u v, x.services[j]? = some u → x.services[j + 1]? = some v → Op.bytesLess u.name.toList v.name.toList = true
 b1 : ∀ (j : Nat) y, x.berths[j]? = some y → snB y.name = true
 b2 : ∀ (j : Nat) u v, x.berths[j]? = some u → x.berths[j + 1]? = some v → Op.bytesLess u.name.toList v.name.toList = true
 c1 : ∀ (j : Nat) y, x.copies[j]? = some y → cpB x y = true
 c2 : ∀ (j : Nat) u v, x.copies[j]? = some u → x.copies[j + 1]? = some v → ahB u v = true

def SvRes (x : Sbk) (w : World) (e : Ending) (w' : World) : Prop := ∃ t : Bool, e = .returned (.bool t) ∧ (t = true ↔ SVal x) ∧ Below w.heap.size w w'

set_option maxHeartbeats 16000000 in
set_option maxRecDepth 100000 in
theorem specSVal_any (x : Sbk) (a1 : Option Addr) (c1 : Nat) (a2 : Option Addr) (c2 : Nat) (a3 : Option Addr) (c3 : Nat) (lo : Nat) (w : World) (n1 : SliceC SsvC 13 lo w a1 x.services) (n2 : SliceC ScpC 7 lo w a2 x.copies) (n3 : SliceC SbtC 2 lo w a3 x.berths) :
  Calls Tryz.prog 16 #[.agg #[.int .i64 x.now, .slice a1 x.services.length c1, .slice a2 x.copies.length c2, .slice a3 x.berths.length c3]] w fun e w' => SvRes x w e w' := by
 have HN1 := Hid.intro n1
 have HN2 := Hid.intro n2
 have HN3 := Hid.intro n3
 clear n1 n2 n3
 have HK1 : Hid (Blk w.heap.size #[.int .i64 x.now, .slice a1 x.services.length c1, .slice a2 x.copies.length c2, .slice a3 x.berths.length c3] 34 (w.alloc (Obj.cells #[.int .i64 x.now, .slice a1 x.services.length c1, .slice a2 x.copies.length c2, .slice a3 x.berths.length c3] 34))) := Blk.alloc _ _ _
 have hB1 : Below w.heap.size w (w.alloc (Obj.cells #[.int .i64 x.now, .slice a1 x.services.length c1, .slice a2 x.copies.length c2, .slice a3 x.berths.length c3] 34)) := by go_grown
 go_enter Tryz.func16, Tryz.ntmps16
 go_upto_region 1 with fail
 generalize w.alloc (Obj.cells #[.int .i64 x.now, .slice a1 x.services.length c1, .slice a2 x.copies.length c2, .slice a3 x.berths.length c3] 34) = w1 at *
 have k0 : w1.cell? ⟨w.heap.size, 0, none⟩ = some (.int .i64 x.now) := HK1.out.cell rfl
 have k1 : w1.cell? ⟨w.heap.size, 1, none⟩ = some (.slice a1 x.services.length c1) := HK1.out.cell rfl
 have k2 : w1.cell? ⟨w.heap.size, 2, none⟩ = some (.slice a2 x.copies.length c2) := HK1.out.cell rfl
 have k3 : w1.cell? ⟨w.heap.size, 3, none⟩ = some (.slice a3 x.berths.length c3) := HK1.out.cell rfl
 go_wp2_with fail
 refine (in18_any x.now 0 1000000 _).mono ?_
 rintro e w1 ⟨rfl, rfl⟩
 cases h0 : inR x.now 0 1000000 with
 | false =>
  go_wp2_with fail
  go_ret
  exact ⟨false, rfl, ⟨fun h => (by cases h), fun h => (by have := h.now; rw [h0] at this; cases this)⟩, hB1⟩
 | true =>
  by_cases hl_services : x.services.length ≤ 8
  case neg =>
   have hi : (8 : Int) < (x.services.length : Int) := by omega
   go_wp2_with fail
   go_ret
   exact ⟨false, rfl, ⟨fun h => (by cases h), fun h => (absurd h.l1 hl_services)⟩, hB1⟩
  have hj_services : (x.services.length : Int) ≤ 8 := by omega
  by_cases hl_copies : x.copies.length ≤ 200
  case neg =>
   have hi : (200 : Int) < (x.copies.length : Int) := by omega
   go_wp2_with fail
   go_ret
   exact ⟨false, rfl, ⟨fun h => (by cases h), fun h => (absurd h.l2 hl_copies)⟩, hB1⟩
  have hj_copies : (x.copies.length : Int) ≤ 200 := by omega
  by_cases hl_berths : x.berths.length ≤ 6
  case neg =>
   have hi : (6 : Int) < (x.berths.length : Int) := by omega
   go_wp2_with fail
   go_ret
   exact ⟨false, rfl, ⟨fun h => (by cases h), fun h => (absurd h.l3 hl_berths)⟩, hB1⟩
  have hj_berths : (x.berths.length : Int) ≤ 6 := by omega
  go_upto_region 3 with fail
  clear k0 k1 k2 k3
  go_wp2_with fail
  go_loopw [3] (fun i wr => ∃ k : Nat, k ≤ x.services.length ∧ i = .int .i64 k ∧ Hid (∀ (j : Nat) y, j < k → x.services[j]? = some y → svB y x.now = true) ∧ Hid (∀ (j : Nat) u v, j + 1 < k → x.services[j]? = some u → x.services[j + 1]? = some v → Op.bytesLess u.name.toList v.name.toList = true) ∧ Below w1.heap.size w1 wr) (fun i _ => x.services.length - (intOf i).toNat)
  case atStart => exact ⟨0, Nat.zero_le _, rfl, fun j y h => by omega, fun j u v h => by omega, Below.refl _ _⟩
  case round =>
   obtain ⟨k, hk, rfl, hN, hA, hBB⟩ := hrel
   have hB := hB1.trans (hBB.mono hB1.size)
   have HKW := Hid.intro (HK1.out.below hBB HK1.out.lt)
   have kk : wr.cell? ⟨w.heap.size, 1, none⟩ = some (.slice a1 x.services.length c1) := HKW.out.cell rfl
   by_cases hlt : k < x.services.length
   case neg =>
    have hke : k = x.services.length := by omega
    subst hke
    have Hs1 : Hid (∀ (j : Nat) y, x.services[j]? = some y → svB y x.now = true) := fun j y h => hN.out j y (List.getElem?_eq_some_iff.1 h).1 h
    have Hs2 : Hid (∀ (j : Nat) u v, x.services[j]? = some u → x.services[j + 1]? = some v → Op.bytesLess u.name.toList v.name.toList = true) := fun j u v h h2 => hA.out j u v (List.getElem?_eq_some_iff.1 h2).1 h h2
    clear hN hA
    have HNX : Hid (∀ v ∈ x.services, 1 ≤ v.next ∧ v.next ≤ 1000000) := by
     intro v hv
     obtain ⟨j, hj⟩ := List.getElem?_of_mem hv
     have h9 := Hs1.out j v hj
     unfold svB at h9
     simp [inR] at h9
     exact ⟨by omega, by omega⟩
    go_upto_region 8 with fail
    clear kk hlt hk HKW hB
    go_wp2_with fail
    go_loopw [4] (fun i wr => ∃ k : Nat, k ≤ x.berths.length ∧ i = .int .i64 k ∧ Hid (∀ (j : Nat) y, j < k → x.berths[j]? = some y → snB y.name = true) ∧ Hid (∀ (j : Nat) u v, j + 1 < k → x.berths[j]? = some u → x.berths[j + 1]? = some v → Op.bytesLess u.name.toList v.name.toList = true) ∧ Below w1.heap.size w1 wr) (fun i _ => x.berths.length - (intOf i).toNat)
    case atStart => exact ⟨0, Nat.zero_le _, rfl, fun j y h => by omega, fun j u v h => by omega, hBB⟩
    case round =>
     clear hBB
     obtain ⟨k, hk, rfl, hN, hA, hBB⟩ := hrel
     have hB := hB1.trans (hBB.mono hB1.size)
     have HKW := Hid.intro (HK1.out.below hBB HK1.out.lt)
     have kk : wr.cell? ⟨w.heap.size, 3, none⟩ = some (.slice a3 x.berths.length c3) := HKW.out.cell rfl
     by_cases hlt : k < x.berths.length
     case neg =>
      have hke : k = x.berths.length := by omega
      subst hke
      have Hb1 : Hid (∀ (j : Nat) y, x.berths[j]? = some y → snB y.name = true) := fun j y h => hN.out j y (List.getElem?_eq_some_iff.1 h).1 h
      have Hb2 : Hid (∀ (j : Nat) u v, x.berths[j]? = some u → x.berths[j + 1]? = some v → Op.bytesLess u.name.toList v.name.toList = true) := fun j u v h h2 => hA.out j u v (List.getElem?_eq_some_iff.1 h2).1 h h2
      clear hN hA
      go_upto_region 13 with fail
      clear kk hlt hk HKW hB
      go_wp2_with fail
      go_loopw [5] (fun i wr => ∃ k : Nat, k ≤ x.copies.length ∧ i = .int .i64 k ∧ Hid (∀ (j : Nat) y, j < k → x.copies[j]? = some y → cpB x y = true) ∧ Hid (∀ (j : Nat) u v, j + 1 < k → x.copies[j]? = some u → x.copies[j + 1]? = some v → ahB u v = true) ∧ Below w1.heap.size w1 wr) (fun i _ => x.copies.length - (intOf i).toNat)
      case atStart => exact ⟨0, Nat.zero_le _, rfl, fun j y h => by omega, fun j u v h => by omega, hBB⟩
      case round =>
       clear hBB
       obtain ⟨k, hk, rfl, hN, hA, hBB⟩ := hrel
       have hB := hB1.trans (hBB.mono hB1.size)
       have HKW := Hid.intro (HK1.out.below hBB HK1.out.lt)
       have kk : wr.cell? ⟨w.heap.size, 2, none⟩ = some (.slice a2 x.copies.length c2) := HKW.out.cell rfl
       by_cases hlt : k < x.copies.length
       case neg =>
        have hke : k = x.copies.length := by omega
        subst hke
        have Hc1 : Hid (∀ (j : Nat) y, x.copies[j]? = some y → cpB x y = true) := fun j y h => hN.out j y (List.getElem?_eq_some_iff.1 h).1 h
        have Hc2 : Hid (∀ (j : Nat) u v, x.copies[j]? = some u → x.copies[j + 1]? = some v → ahB u v = true) := fun j u v h h2 => hA.out j u v (List.getElem?_eq_some_iff.1 h2).1 h h2
        clear hN hA
        go_wp2_with fail
        go_ret
        exact ⟨true, rfl, ⟨fun _ => ⟨h0, hl_services, hl_copies, hl_berths, Hs1.out, Hs2.out, Hb1.out, Hb2.out, Hc1.out, Hc2.out⟩, fun _ => rfl⟩, hB⟩
       obtain ⟨y, hy⟩ : ∃ y, x.copies[k]? = some y := ⟨x.copies[k], List.getElem?_eq_getElem hlt⟩
       have HIR := Hid.intro (HN2.out.below ScpC.holds hB (Nat.le_refl _))
       obtain ⟨b, o, ea, _, hbl, hc⟩ := HIR.out.at hy
       subst ea
       have hz := hc
       obtain ⟨_, _, _, _, _, _, _, z0, z1⟩ := hz
       have HRY := Hid.intro (rngScp hc)
       have Z0 := Hid.intro z0
       have HYY := Hid.intro hy
       clear z0 z1 hc hy
       go_upto_region 16 with fail
       clear kk
       cases hro : cpB x y with
       | false =>
        have HRO := Hid.intro hro
        refine wp_region_held_drew (S := fun wy => Blk w.heap.size #[.int .i64 x.now, .slice a1 x.services.length c1, .slice (some ⟨b, o, none⟩) x.copies.length c2, .slice a3 x.berths.length c3] 34 wy ∧ wy.rangeAt b (o + k * 7) [.string y.service, .int .i64 y.number, .int .i64 y.version, .int .i64 y.image, .int .i64 y.state, .bool y.ending, .string y.berth]) (by kernel_rfl) ⟨HKW.out.drew, HRY.out⟩ (fun hS => ?_)
        have HB : Hid (Below w1.heap.size w1 wr.drew) := hBB.drew
        replace hbl : b < wr.drew.heap.size := hbl
        generalize wr.drew = wn at *
        refine tm 0 106 w.heap.size 0 [.int .i64 x.now, .slice a1 x.services.length c1, .slice (some ⟨b, o, none⟩) x.copies.length c2, .slice a3 x.berths.length c3] rfl (fun _ h => h.1.rangeA) Tryz.underlying34 isz_Sbk hS ?_
        simp only [pA,pB,pC,pD]
        refine tz 1 107 (.pointer (some ⟨w.heap.size, 2, none⟩)) rfl hS ?_
        simp only [pA,pB,pC,pD]
        refine ty 2 ⟨some 108, _, _, _, _, none⟩ (.slice (some ⟨b, o, none⟩) x.copies.length c2) rfl (by rfl) ?_ hS ?_
        ·intro wy hy
         have h := id hy
         have h0 := h.1.cell (o := 2) rfl
         clear hy
         go_simp
        simp only [pA,pB,pC,pD]
        refine tz 3 109 (.int .i64 (k : Int)) rfl hS ?_
        simp only [pA,pB,pC,pD]
        refine ty 4 ⟨some 110, _, _, _, _, none⟩ (.pointer (some ⟨b, o + k * 7, none⟩)) rfl (by rfl) ?_ hS ?_
        ·intro wy hy
         clear hy
         first | (go_simp; done) | (go_simp; omega) | (go_simp; intro hh; omega)
        simp only [pA,pB,pC,pD]
        refine tm 5 111 b (o + k * 7) [.string y.service, .int .i64 y.number, .int .i64 y.version, .int .i64 y.image, .int .i64 y.state, .bool y.ending, .string y.berth] rfl (fun _ h => h.2) Tryz.underlying87 isz_Scp hS ?_
        simp only [pA,pB,pC,pD]
        refine rd1 6 ⟨some 112, _, _, _, _, none⟩ rfl (fun KK hKK => ?_)
        go_simp
        refine (copy18_any x a1 c1 (some ⟨b, o, none⟩) c2 a3 c3 lo y _ (HN1.out.below SsvC.holds (hB1.trans (HB.out.mono hB1.size)) (Nat.le_refl _)) (HN3.out.below SbtC.holds (hB1.trans (HB.out.mono hB1.size)) (Nat.le_refl _)) (by omega) (by omega) HNX.out).mono ?_
        rintro e w5 ⟨rfl, hb⟩
        rw [HRO.out]
        replace HB : Hid (Below w1.heap.size w1 w5) := HB.out.trans (hb.mono HB.out.size)
        refine hKK.out _ _ ⟨hS.1.below hb hS.1.lt, rngB hS.2 hb hbl⟩ (fun hS => ?_)
        clear hKK KK
        replace hbl : b < w5.heap.size := Nat.lt_of_lt_of_le hbl hb.size
        clear hb
        generalize w5 = wn at *
        refine tz 7 113 (.bool true) rfl hS ?_
        simp only [pA,pB,pC,pD]
        refine tz 8 114 (.bool true) rfl hS ?_
        simp only [pA,pB,pC,pD]
        refine ts 9 115 rfl hS ?_
        simp only [pA,pB,pC,pD]
        refine ts 10 116 rfl hS ?_
        simp only [pA,pB,pC,pD]
        refine ts 11 117 rfl hS ?_
        simp only [pA,pB,pC,pD]
        refine ts 12 118 rfl hS ?_
        simp only [pA,pB,pC,pD]
        refine ts 13 119 rfl hS ?_
        simp only [pA,pB,pC,pD]
        refine ts 14 120 rfl hS ?_
        simp only [pA,pB,pC,pD]
        refine ts 15 121 rfl hS ?_
        simp only [pA,pB,pC,pD]
        refine ts 16 122 rfl hS ?_
        simp only [pA,pB,pC,pD]
        refine ts 17 123 rfl hS ?_
        simp only [pA,pB,pC,pD]
        refine ts 18 124 rfl hS ?_
        simp only [pA,pB,pC,pD]
        refine ts 19 125 rfl hS ?_
        simp only [pA,pB,pC,pD]
        refine ts 20 126 rfl hS ?_
        simp only [pA,pB,pC,pD]
        refine ts 21 127 rfl hS ?_
        simp only [pA,pB,pC,pD]
        refine ts 22 128 rfl hS ?_
        simp only [pA,pB,pC,pD]
        refine ts 23 129 rfl hS ?_
        simp only [pA,pB,pC,pD]
        refine ts 24 130 rfl hS ?_
        simp only [pA,pB,pC,pD]
        refine ts 25 131 rfl hS ?_
        simp only [pA,pB,pC,pD]
        refine tz 26 132 (.bool true) rfl hS ?_
        simp only [pA,pB,pC,pD]
        refine wpAnyH_done (by kernel_rfl) ?_ _
        clear hS
        go_wp2_with fail
        go_ret
        exact ⟨false, rfl, ⟨fun h => (by cases h), fun h => (by have h9 := h.c1 k y HYY.out; rw [HRO.out] at h9; cases h9)⟩, hB1.trans (HB.out.mono hB1.size)⟩
       | true =>
        have HRO := Hid.intro hro
        have HN2c : Hid (∀ (j : Nat) y, j < k + 1 → x.copies[j]? = some y → cpB x y = true) := by
         intro j q hj hq
         by_cases e : j = k
         ·subst e; rw [HYY.out] at hq; cases hq; exact hro
         ·exact hN.out j q (by omega) hq
        clear hro
        cases k with
        | zero =>
         refine wp_region_held_drew (S := fun wy => Blk w.heap.size #[.int .i64 x.now, .slice a1 x.services.length c1, .slice (some ⟨b, o, none⟩) x.copies.length c2, .slice a3 x.berths.length c3] 34 wy ∧ wy.rangeAt b (o + 0 * 7) [.string y.service, .int .i64 y.number, .int .i64 y.version, .int .i64 y.image, .int .i64 y.state, .bool y.ending, .string y.berth]) (by kernel_rfl) ⟨HKW.out.drew, HRY.out⟩ (fun hS => ?_)
         have HB : Hid (Below w1.heap.size w1 wr.drew) := hBB.drew
         replace hbl : b < wr.drew.heap.size := hbl
         generalize wr.drew = wn at *
         refine tm 0 106 w.heap.size 0 [.int .i64 x.now, .slice a1 x.services.length c1, .slice (some ⟨b, o, none⟩) x.copies.length c2, .slice a3 x.berths.length c3] rfl (fun _ h => h.1.rangeA) Tryz.underlying34 isz_Sbk hS ?_
         simp only [pA,pB,pC,pD]
         refine tz 1 107 (.pointer (some ⟨w.heap.size, 2, none⟩)) rfl hS ?_
         simp only [pA,pB,pC,pD]
         refine ty 2 ⟨some 108, _, _, _, _, none⟩ (.slice (some ⟨b, o, none⟩) x.copies.length c2) rfl (by rfl) ?_ hS ?_
         ·intro wy hy
          have h := id hy
          have h0 := h.1.cell (o := 2) rfl
          clear hy
          go_simp
         simp only [pA,pB,pC,pD]
         refine tz 3 109 (.int .i64 ((0 : Nat) : Int)) rfl hS ?_
         simp only [pA,pB,pC,pD]
         refine ty 4 ⟨some 110, _, _, _, _, none⟩ (.pointer (some ⟨b, o + 0 * 7, none⟩)) rfl (by rfl) ?_ hS ?_
         ·intro wy hy
          clear hy
          first | (go_simp; done) | (go_simp; omega) | (go_simp; intro hh; omega)
         simp only [pA,pB,pC,pD]
         refine tm 5 111 b (o + 0 * 7) [.string y.service, .int .i64 y.number, .int .i64 y.version, .int .i64 y.image, .int .i64 y.state, .bool y.ending, .string y.berth] rfl (fun _ h => h.2) Tryz.underlying87 isz_Scp hS ?_
         simp only [pA,pB,pC,pD]
         refine rd1 6 ⟨some 112, _, _, _, _, none⟩ rfl (fun KK hKK => ?_)
         go_simp
         refine (copy18_any x a1 c1 (some ⟨b, o, none⟩) c2 a3 c3 lo y _ (HN1.out.below SsvC.holds (hB1.trans (HB.out.mono hB1.size)) (Nat.le_refl _)) (HN3.out.below SbtC.holds (hB1.trans (HB.out.mono hB1.size)) (Nat.le_refl _)) (by omega) (by omega) HNX.out).mono ?_
         rintro e w5 ⟨rfl, hb⟩
         rw [HRO.out]
         replace HB : Hid (Below w1.heap.size w1 w5) := HB.out.trans (hb.mono HB.out.size)
         refine hKK.out _ _ ⟨hS.1.below hb hS.1.lt, rngB hS.2 hb hbl⟩ (fun hS => ?_)
         clear hKK KK
         replace hbl : b < w5.heap.size := Nat.lt_of_lt_of_le hbl hb.size
         clear hb
         generalize w5 = wn at *
         refine tz 7 113 (.bool false) rfl hS ?_
         simp only [pA,pB,pC,pD]
         refine tz 8 114 (.bool false) rfl hS ?_
         simp only [pA,pB,pC,pD]
         refine tz 9 115 (.int .i64 ((0 : Nat) : Int)) rfl hS ?_
         simp only [pA,pB,pC,pD]
         refine ty 10 ⟨some 116, _, _, _, _, some (8, false)⟩ (.bool false) rfl (by rfl) ?_ hS ?_
         ·intro wy hy
          clear hy
          first | (go_simp; done) | (go_simp; omega) | (go_simp; intro hh; omega)
         simp only [pA,pB,pC,pD]
         refine tz 11 117 (.bool false) rfl hS ?_
         simp only [pA,pB,pC,pD]
         refine ts 12 118 rfl hS ?_
         simp only [pA,pB,pC,pD]
         refine ts 13 119 rfl hS ?_
         simp only [pA,pB,pC,pD]
         refine ts 14 120 rfl hS ?_
         simp only [pA,pB,pC,pD]
         refine ts 15 121 rfl hS ?_
         simp only [pA,pB,pC,pD]
         refine ts 16 122 rfl hS ?_
         simp only [pA,pB,pC,pD]
         refine ts 17 123 rfl hS ?_
         simp only [pA,pB,pC,pD]
         refine ts 18 124 rfl hS ?_
         simp only [pA,pB,pC,pD]
         refine ts 19 125 rfl hS ?_
         simp only [pA,pB,pC,pD]
         refine ts 20 126 rfl hS ?_
         simp only [pA,pB,pC,pD]
         refine ts 21 127 rfl hS ?_
         simp only [pA,pB,pC,pD]
         refine ts 22 128 rfl hS ?_
         simp only [pA,pB,pC,pD]
         refine ts 23 129 rfl hS ?_
         simp only [pA,pB,pC,pD]
         refine ts 24 130 rfl hS ?_
         simp only [pA,pB,pC,pD]
         refine tz 25 131 (.bool false) rfl hS ?_
         simp only [pA,pB,pC,pD]
         refine tz 26 132 (.bool false) rfl hS ?_
         simp only [pA,pB,pC,pD]
         refine wpAnyH_done (by kernel_rfl) ?_ _
         clear hS
         go_wp2_with fail
         go_roundw
         case rel => first | exact ⟨0 + 1, by omega, by go_num, HN2c, (Hid.intro (fun j u v h => by omega)), HB.out⟩ | ((repeat apply Exists.intro); exact ⟨⟨0 + 1, by omega, by go_num, HN2c, (Hid.intro (fun j u v h => by omega)), HB.out⟩, rfl⟩)
         case measure => simp [intOf]; omega
        | succ m =>
         obtain ⟨u, hu⟩ : ∃ u, x.copies[m]? = some u := ⟨x.copies[m], List.getElem?_eq_getElem (by omega)⟩
         obtain ⟨b', o', e', _, _, hcx⟩ := HIR.out.at hu
         cases e'
         have HRX := Hid.intro (rngScp hcx)
         have HUU := Hid.intro hu
         generalize hq : ahB u y = Q
         have HQ := Hid.intro hq
         clear hq hu hcx HIR
         refine wp_region_held_drew (S := fun wy => Blk w.heap.size #[.int .i64 x.now, .slice a1 x.services.length c1, .slice (some ⟨b, o, none⟩) x.copies.length c2, .slice a3 x.berths.length c3] 34 wy ∧ wy.rangeAt b (o + (m + 1) * 7) [.string y.service, .int .i64 y.number, .int .i64 y.version, .int .i64 y.image, .int .i64 y.state, .bool y.ending, .string y.berth] ∧ wy.rangeAt b (o + m * 7) [.string u.service, .int .i64 u.number, .int .i64 u.version, .int .i64 u.image, .int .i64 u.state, .bool u.ending, .string u.berth]) (by kernel_rfl) ⟨HKW.out.drew, HRY.out, HRX.out⟩ (fun hS => ?_)
         have HB : Hid (Below w1.heap.size w1 wr.drew) := hBB.drew
         replace hbl : b < wr.drew.heap.size := hbl
         generalize wr.drew = wn at *
         refine tm 0 106 w.heap.size 0 [.int .i64 x.now, .slice a1 x.services.length c1, .slice (some ⟨b, o, none⟩) x.copies.length c2, .slice a3 x.berths.length c3] rfl (fun _ h => h.1.rangeA) Tryz.underlying34 isz_Sbk hS ?_
         simp only [pA,pB,pC,pD]
         refine tz 1 107 (.pointer (some ⟨w.heap.size, 2, none⟩)) rfl hS ?_
         simp only [pA,pB,pC,pD]
         refine ty 2 ⟨some 108, _, _, _, _, none⟩ (.slice (some ⟨b, o, none⟩) x.copies.length c2) rfl (by rfl) ?_ hS ?_
         ·intro wy hy
          have h := id hy
          have h0 := h.1.cell (o := 2) rfl
          clear hy
          go_simp
         simp only [pA,pB,pC,pD]
         refine tz 3 109 (.int .i64 ((m : Int) + 1)) rfl hS ?_
         simp only [pA,pB,pC,pD]
         refine ty 4 ⟨some 110, _, _, _, _, none⟩ (.pointer (some ⟨b, o + (m + 1) * 7, none⟩)) rfl (by rfl) ?_ hS ?_
         ·intro wy hy
          clear hy
          first | (go_simp; done) | (go_simp; omega) | (go_simp; intro hh; omega)
         simp only [pA,pB,pC,pD]
         refine tk 5 ⟨some 111, _, _, _, _, none⟩ (.agg #[.string y.service, .int .i64 y.number, .int .i64 y.version, .int .i64 y.image, .int .i64 y.state, .bool y.ending, .string y.berth]) rfl (yieldsIf_load_mid (by rfl) _ _ rfl b (o + (m + 1) * 7) rfl [.string y.service, .int .i64 y.number, .int .i64 y.version, .int .i64 y.image, .int .i64 y.state, .bool y.ending, .string y.berth] _ (fun _ h => h.2.1) Tryz.underlying87 rfl isz_Scp) hS ?_
         simp only [pA,pB,pC,pD]
         refine rd1 6 ⟨some 112, _, _, _, _, none⟩ rfl (fun KK hKK => ?_)
         go_simp
         refine (copy18_any x a1 c1 (some ⟨b, o, none⟩) c2 a3 c3 lo y _ (HN1.out.below SsvC.holds (hB1.trans (HB.out.mono hB1.size)) (Nat.le_refl _)) (HN3.out.below SbtC.holds (hB1.trans (HB.out.mono hB1.size)) (Nat.le_refl _)) (by omega) (by omega) HNX.out).mono ?_
         rintro e w5 ⟨rfl, hb⟩
         rw [HRO.out]
         replace HB : Hid (Below w1.heap.size w1 w5) := HB.out.trans (hb.mono HB.out.size)
         refine hKK.out _ _ ⟨hS.1.below hb hS.1.lt, rngB hS.2.1 hb hbl, rngB hS.2.2 hb hbl⟩ (fun hS => ?_)
         clear hKK KK
         replace hbl : b < w5.heap.size := Nat.lt_of_lt_of_le hbl hb.size
         clear hb
         generalize w5 = wn at *
         refine tz 7 113 (.bool false) rfl hS ?_
         simp only [pA,pB,pC,pD]
         refine tz 8 114 (.bool false) rfl hS ?_
         simp only [pA,pB,pC,pD]
         refine tz 9 115 (.int .i64 ((m : Int) + 1)) rfl hS ?_
         simp only [pA,pB,pC,pD]
         refine ty 10 ⟨some 116, _, _, _, _, some (8, false)⟩ (.bool true) rfl (by rfl) ?_ hS ?_
         ·intro wy hy
          clear hy
          first | (go_simp; done) | (go_simp; omega) | (go_simp; intro hh; omega)
         simp only [pA,pB,pC,pD]
         refine tz 11 117 (.bool true) rfl hS ?_
         simp only [pA,pB,pC,pD]
         refine tz 12 118 (.pointer (some ⟨w.heap.size, 2, none⟩)) rfl hS ?_
         simp only [pA,pB,pC,pD]
         refine ty 13 ⟨some 119, _, _, _, _, some (11, true)⟩ (.slice (some ⟨b, o, none⟩) x.copies.length c2) rfl (by rfl) ?_ hS ?_
         ·intro wy hy
          have h := id hy
          have h0 := h.1.cell (o := 2) rfl
          clear hy
          go_simp
         simp only [pA,pB,pC,pD]
         refine tz 14 120 (.int .i64 ((m : Int) + 1)) rfl hS ?_
         simp only [pA,pB,pC,pD]
         refine ty 15 ⟨some 121, _, _, _, _, some (11, true)⟩ (.int .i64 (m : Int)) rfl (by rfl) ?_ hS ?_
         ·intro wy hy
          clear hy
          first | (go_simp; done) | (go_simp; rw [IntKind.wrap_i64]; omega) | (go_simp; omega)
         simp only [pA,pB,pC,pD]
         refine ty 16 ⟨some 122, _, _, _, _, some (11, true)⟩ (.pointer (some ⟨b, o + m * 7, none⟩)) rfl (by rfl) ?_ hS ?_
         ·intro wy hy
          clear hy
          first | (go_simp; done) | (go_simp; omega) | (go_simp; intro hh; omega)
         simp only [pA,pB,pC,pD]
         refine tm 17 123 b (o + m * 7) [.string u.service, .int .i64 u.number, .int .i64 u.version, .int .i64 u.image, .int .i64 u.state, .bool u.ending, .string u.berth] rfl (fun _ h => h.2.2) Tryz.underlying87 isz_Scp hS ?_
         simp only [pA,pB,pC,pD]
         refine tz 18 124 (.pointer (some ⟨w.heap.size, 2, none⟩)) rfl hS ?_
         simp only [pA,pB,pC,pD]
         refine ty 19 ⟨some 125, _, _, _, _, some (11, true)⟩ (.slice (some ⟨b, o, none⟩) x.copies.length c2) rfl (by rfl) ?_ hS ?_
         ·intro wy hy
          have h := id hy
          have h0 := h.1.cell (o := 2) rfl
          clear hy
          go_simp
         simp only [pA,pB,pC,pD]
         refine tz 20 126 (.int .i64 ((m : Int) + 1)) rfl hS ?_
         simp only [pA,pB,pC,pD]
         refine ty 21 ⟨some 127, _, _, _, _, some (11, true)⟩ (.pointer (some ⟨b, o + (m + 1) * 7, none⟩)) rfl (by rfl) ?_ hS ?_
         ·intro wy hy
          clear hy
          first | (go_simp; done) | (go_simp; omega) | (go_simp; intro hh; omega)
         simp only [pA,pB,pC,pD]
         refine tk 22 ⟨some 128, _, _, _, _, some (11, true)⟩ (.agg #[.string y.service, .int .i64 y.number, .int .i64 y.version, .int .i64 y.image, .int .i64 y.state, .bool y.ending, .string y.berth]) rfl (yieldsIf_load_mid (by rfl) _ _ rfl b (o + (m + 1) * 7) rfl [.string y.service, .int .i64 y.number, .int .i64 y.version, .int .i64 y.image, .int .i64 y.state, .bool y.ending, .string y.berth] _ (fun _ h => h.2.1) Tryz.underlying87 rfl isz_Scp) hS ?_
         simp only [pA,pB,pC,pD]
         refine rd1 23 ⟨some 129, _, _, _, _, some (11, true)⟩ rfl (fun KK hKK => ?_)
         go_simp
         refine (ahead18_any u y _).mono ?_
         rintro e w5 ⟨rfl, hb⟩
         rw [HQ.out]
         replace HB : Hid (Below w1.heap.size w1 w5) := HB.out.trans (hb.mono HB.out.size)
         refine hKK.out _ _ ⟨hS.1.below hb hS.1.lt, rngB hS.2.1 hb hbl, rngB hS.2.2 hb hbl⟩ (fun hS => ?_)
         clear hKK KK
         replace hbl : b < w5.heap.size := Nat.lt_of_lt_of_le hbl hb.size
         clear hb
         generalize w5 = wn at *
         refine tz 24 130 (.bool (!Q)) rfl hS ?_
         simp only [pA,pB,pC,pD]
         refine tz 25 131 (.bool (!Q)) rfl hS ?_
         simp only [pA,pB,pC,pD]
         refine tz 26 132 (.bool (!Q)) rfl hS ?_
         simp only [pA,pB,pC,pD]
         refine wpAnyH_done (by kernel_rfl) ?_ _
         clear hS
         cases Q with
         | false =>
          go_wp2_with fail
          go_ret
          exact ⟨false, rfl, ⟨fun h => (by cases h), fun h => (by have h9 := h.c2 m u y HUU.out HYY.out; rw [HQ.out] at h9; cases h9)⟩, hB1.trans (HB.out.mono hB1.size)⟩
         | true =>
          have HA2 : Hid (∀ (j : Nat) u v, j + 1 < m + 1 + 1 → x.copies[j]? = some u → x.copies[j + 1]? = some v → ahB u v = true) := by
           intro j p q hj hp hq
           by_cases e : j = m
           ·subst e; rw [HUU.out] at hp; rw [HYY.out] at hq; cases hp; cases hq; exact HQ.out
           ·exact hA.out j p q (by omega) hp hq
          go_wp2_with fail
          go_roundw
          case rel => first | exact ⟨m + 1 + 1, by omega, by go_num, HN2c, HA2, HB.out⟩ | ((repeat apply Exists.intro); exact ⟨⟨m + 1 + 1, by omega, by go_num, HN2c, HA2, HB.out⟩, rfl⟩)
          case measure => simp [intOf]; omega
     obtain ⟨y, hy⟩ : ∃ y, x.berths[k]? = some y := ⟨x.berths[k], List.getElem?_eq_getElem hlt⟩
     have HIR := Hid.intro (HN3.out.below SbtC.holds hB (Nat.le_refl _))
     obtain ⟨b, o, ea, _, hbl, hc⟩ := HIR.out.at hy
     subst ea
     have hz := hc
     obtain ⟨_, _, z0⟩ := hz
     have HRY := Hid.intro (rngSbt hc)
     have Z0 := Hid.intro z0
     have HYY := Hid.intro hy
     clear z0 hc hy
     go_upto_region 11 with fail
     clear kk
     cases hro : snB y.name with
     | false =>
      have HRO := Hid.intro hro
      refine wp_region_held_drew (S := fun wy => Blk w.heap.size #[.int .i64 x.now, .slice a1 x.services.length c1, .slice a2 x.copies.length c2, .slice (some ⟨b, o, none⟩) x.berths.length c3] 34 wy ∧ wy.rangeAt b (o + k * 2) [.string y.name, .bool y.drain]) (by kernel_rfl) ⟨HKW.out.drew, HRY.out⟩ (fun hS => ?_)
      have HB : Hid (Below w1.heap.size w1 wr.drew) := hBB.drew
      replace hbl : b < wr.drew.heap.size := hbl
      generalize wr.drew = wn at *
      refine tz 0 71 (.pointer (some ⟨w.heap.size, 3, none⟩)) rfl hS ?_
      simp only [pA,pB,pC,pD]
      refine ty 1 ⟨some 72, _, _, _, _, none⟩ (.slice (some ⟨b, o, none⟩) x.berths.length c3) rfl (by rfl) ?_ hS ?_
      ·intro wy hy
       have h := id hy
       have h0 := h.1.cell (o := 3) rfl
       clear hy
       go_simp
      simp only [pA,pB,pC,pD]
      refine tz 2 73 (.int .i64 (k : Int)) rfl hS ?_
      simp only [pA,pB,pC,pD]
      refine ty 3 ⟨some 74, _, _, _, _, none⟩ (.pointer (some ⟨b, o + k * 2, none⟩)) rfl (by rfl) ?_ hS ?_
      ·intro wy hy
       clear hy
       first | (go_simp; done) | (go_simp; omega) | (go_simp; intro hh; omega)
      simp only [pA,pB,pC,pD]
      refine tz 4 75 (.pointer (some ⟨b, o + k * 2, none⟩)) rfl hS ?_
      simp only [pA,pB,pC,pD]
      refine ty 5 ⟨some 76, _, _, _, _, none⟩ (.string y.name) rfl (by rfl) ?_ hS ?_
      ·intro wy hy
       have h := id hy
       have h0 := h.2 0 _ rfl
       simp only [Nat.add_zero] at h0
       clear hy
       go_simp
      simp only [pA,pB,pC,pD]
      refine rd1 6 ⟨some 77, _, _, _, _, none⟩ rfl (fun KK hKK => ?_)
      go_simp
      refine (name18_any y.name _ Z0.out).mono ?_
      rintro e wn ⟨rfl, rfl⟩
      rw [HRO.out]
      refine hKK.out _ _ hS (fun hS => ?_)
      clear hKK KK
      refine tz 7 78 (.bool true) rfl hS ?_
      simp only [pA,pB,pC,pD]
      refine tz 8 79 (.bool true) rfl hS ?_
      simp only [pA,pB,pC,pD]
      refine ts 9 80 rfl hS ?_
      simp only [pA,pB,pC,pD]
      refine ts 10 81 rfl hS ?_
      simp only [pA,pB,pC,pD]
      refine ts 11 82 rfl hS ?_
      simp only [pA,pB,pC,pD]
      refine ts 12 83 rfl hS ?_
      simp only [pA,pB,pC,pD]
      refine ts 13 84 rfl hS ?_
      simp only [pA,pB,pC,pD]
      refine ts 14 85 rfl hS ?_
      simp only [pA,pB,pC,pD]
      refine ts 15 86 rfl hS ?_
      simp only [pA,pB,pC,pD]
      refine ts 16 87 rfl hS ?_
      simp only [pA,pB,pC,pD]
      refine ts 17 88 rfl hS ?_
      simp only [pA,pB,pC,pD]
      refine ts 18 89 rfl hS ?_
      simp only [pA,pB,pC,pD]
      refine ts 19 90 rfl hS ?_
      simp only [pA,pB,pC,pD]
      refine ts 20 91 rfl hS ?_
      simp only [pA,pB,pC,pD]
      refine ts 21 92 rfl hS ?_
      simp only [pA,pB,pC,pD]
      refine ts 22 93 rfl hS ?_
      simp only [pA,pB,pC,pD]
      refine ts 23 94 rfl hS ?_
      simp only [pA,pB,pC,pD]
      refine ts 24 95 rfl hS ?_
      simp only [pA,pB,pC,pD]
      refine ts 25 96 rfl hS ?_
      simp only [pA,pB,pC,pD]
      refine ts 26 97 rfl hS ?_
      simp only [pA,pB,pC,pD]
      refine tz 27 98 (.bool true) rfl hS ?_
      simp only [pA,pB,pC,pD]
      refine wpAnyH_done (by kernel_rfl) ?_ _
      clear hS
      go_wp2_with fail
      go_ret
      exact ⟨false, rfl, ⟨fun h => (by cases h), fun h => (by have h9 := h.b1 k y HYY.out; rw [HRO.out] at h9; cases h9)⟩, hB1.trans (HB.out.mono hB1.size)⟩
     | true =>
      have HRO := Hid.intro hro
      have HN2b : Hid (∀ (j : Nat) y, j < k + 1 → x.berths[j]? = some y → snB y.name = true) := by
       intro j q hj hq
       by_cases e : j = k
       ·subst e; rw [HYY.out] at hq; cases hq; exact hro
       ·exact hN.out j q (by omega) hq
      clear hro
      cases k with
      | zero =>
       refine wp_region_held_drew (S := fun wy => Blk w.heap.size #[.int .i64 x.now, .slice a1 x.services.length c1, .slice a2 x.copies.length c2, .slice (some ⟨b, o, none⟩) x.berths.length c3] 34 wy ∧ wy.rangeAt b (o + 0 * 2) [.string y.name, .bool y.drain]) (by kernel_rfl) ⟨HKW.out.drew, HRY.out⟩ (fun hS => ?_)
       have HB : Hid (Below w1.heap.size w1 wr.drew) := hBB.drew
       replace hbl : b < wr.drew.heap.size := hbl
       generalize wr.drew = wn at *
       refine tz 0 71 (.pointer (some ⟨w.heap.size, 3, none⟩)) rfl hS ?_
       simp only [pA,pB,pC,pD]
       refine ty 1 ⟨some 72, _, _, _, _, none⟩ (.slice (some ⟨b, o, none⟩) x.berths.length c3) rfl (by rfl) ?_ hS ?_
       ·intro wy hy
        have h := id hy
        have h0 := h.1.cell (o := 3) rfl
        clear hy
        go_simp
       simp only [pA,pB,pC,pD]
       refine tz 2 73 (.int .i64 ((0 : Nat) : Int)) rfl hS ?_
       simp only [pA,pB,pC,pD]
       refine ty 3 ⟨some 74, _, _, _, _, none⟩ (.pointer (some ⟨b, o + 0 * 2, none⟩)) rfl (by rfl) ?_ hS ?_
       ·intro wy hy
        clear hy
        first | (go_simp; done) | (go_simp; omega) | (go_simp; intro hh; omega)
       simp only [pA,pB,pC,pD]
       refine tz 4 75 (.pointer (some ⟨b, o + 0 * 2, none⟩)) rfl hS ?_
       simp only [pA,pB,pC,pD]
       refine ty 5 ⟨some 76, _, _, _, _, none⟩ (.string y.name) rfl (by rfl) ?_ hS ?_
       ·intro wy hy
        have h := id hy
        have h0 := h.2 0 _ rfl
        simp only [Nat.add_zero] at h0
        clear hy
        go_simp
       simp only [pA,pB,pC,pD]
       refine rd1 6 ⟨some 77, _, _, _, _, none⟩ rfl (fun KK hKK => ?_)
       go_simp
       refine (name18_any y.name _ Z0.out).mono ?_
       rintro e wn ⟨rfl, rfl⟩
       rw [HRO.out]
       refine hKK.out _ _ hS (fun hS => ?_)
       clear hKK KK
       refine tz 7 78 (.bool false) rfl hS ?_
       simp only [pA,pB,pC,pD]
       refine tz 8 79 (.bool false) rfl hS ?_
       simp only [pA,pB,pC,pD]
       refine tz 9 80 (.int .i64 ((0 : Nat) : Int)) rfl hS ?_
       simp only [pA,pB,pC,pD]
       refine ty 10 ⟨some 81, _, _, _, _, some (8, false)⟩ (.bool false) rfl (by rfl) ?_ hS ?_
       ·intro wy hy
        clear hy
        first | (go_simp; done) | (go_simp; omega) | (go_simp; intro hh; omega)
       simp only [pA,pB,pC,pD]
       refine tz 11 82 (.bool false) rfl hS ?_
       simp only [pA,pB,pC,pD]
       refine ts 12 83 rfl hS ?_
       simp only [pA,pB,pC,pD]
       refine ts 13 84 rfl hS ?_
       simp only [pA,pB,pC,pD]
       refine ts 14 85 rfl hS ?_
       simp only [pA,pB,pC,pD]
       refine ts 15 86 rfl hS ?_
       simp only [pA,pB,pC,pD]
       refine ts 16 87 rfl hS ?_
       simp only [pA,pB,pC,pD]
       refine ts 17 88 rfl hS ?_
       simp only [pA,pB,pC,pD]
       refine ts 18 89 rfl hS ?_
       simp only [pA,pB,pC,pD]
       refine ts 19 90 rfl hS ?_
       simp only [pA,pB,pC,pD]
       refine ts 20 91 rfl hS ?_
       simp only [pA,pB,pC,pD]
       refine ts 21 92 rfl hS ?_
       simp only [pA,pB,pC,pD]
       refine ts 22 93 rfl hS ?_
       simp only [pA,pB,pC,pD]
       refine ts 23 94 rfl hS ?_
       simp only [pA,pB,pC,pD]
       refine ts 24 95 rfl hS ?_
       simp only [pA,pB,pC,pD]
       refine ts 25 96 rfl hS ?_
       simp only [pA,pB,pC,pD]
       refine tz 26 97 (.bool false) rfl hS ?_
       simp only [pA,pB,pC,pD]
       refine tz 27 98 (.bool false) rfl hS ?_
       simp only [pA,pB,pC,pD]
       refine wpAnyH_done (by kernel_rfl) ?_ _
       clear hS
       go_wp2_with fail
       go_roundw
       case rel => first | exact ⟨0 + 1, by omega, by go_num, HN2b, (Hid.intro (fun j u v h => by omega)), HB.out⟩ | ((repeat apply Exists.intro); exact ⟨⟨0 + 1, by omega, by go_num, HN2b, (Hid.intro (fun j u v h => by omega)), HB.out⟩, rfl⟩)
       case measure => simp [intOf]; omega
      | succ m =>
       obtain ⟨u, hu⟩ : ∃ u, x.berths[m]? = some u := ⟨x.berths[m], List.getElem?_eq_getElem (by omega)⟩
       obtain ⟨b', o', e', _, _, hcx⟩ := HIR.out.at hu
       cases e'
       have HRX := Hid.intro (rngSbt hcx)
       have HUU := Hid.intro hu
       generalize hq : Op.bytesLess u.name.toList y.name.toList = Q
       have HQ := Hid.intro hq
       clear hq hu hcx HIR
       refine wp_region_held_drew (S := fun wy => Blk w.heap.size #[.int .i64 x.now, .slice a1 x.services.length c1, .slice a2 x.copies.length c2, .slice (some ⟨b, o, none⟩) x.berths.length c3] 34 wy ∧ wy.rangeAt b (o + (m + 1) * 2) [.string y.name, .bool y.drain] ∧ wy.rangeAt b (o + m * 2) [.string u.name, .bool u.drain]) (by kernel_rfl) ⟨HKW.out.drew, HRY.out, HRX.out⟩ (fun hS => ?_)
       have HB : Hid (Below w1.heap.size w1 wr.drew) := hBB.drew
       replace hbl : b < wr.drew.heap.size := hbl
       generalize wr.drew = wn at *
       refine tz 0 71 (.pointer (some ⟨w.heap.size, 3, none⟩)) rfl hS ?_
       simp only [pA,pB,pC,pD]
       refine ty 1 ⟨some 72, _, _, _, _, none⟩ (.slice (some ⟨b, o, none⟩) x.berths.length c3) rfl (by rfl) ?_ hS ?_
       ·intro wy hy
        have h := id hy
        have h0 := h.1.cell (o := 3) rfl
        clear hy
        go_simp
       simp only [pA,pB,pC,pD]
       refine tz 2 73 (.int .i64 ((m : Int) + 1)) rfl hS ?_
       simp only [pA,pB,pC,pD]
       refine ty 3 ⟨some 74, _, _, _, _, none⟩ (.pointer (some ⟨b, o + (m + 1) * 2, none⟩)) rfl (by rfl) ?_ hS ?_
       ·intro wy hy
        clear hy
        first | (go_simp; done) | (go_simp; omega) | (go_simp; intro hh; omega)
       simp only [pA,pB,pC,pD]
       refine tz 4 75 (.pointer (some ⟨b, o + (m + 1) * 2, none⟩)) rfl hS ?_
       simp only [pA,pB,pC,pD]
       refine ty 5 ⟨some 76, _, _, _, _, none⟩ (.string y.name) rfl (by rfl) ?_ hS ?_
       ·intro wy hy
        have h := id hy
        have h0 := h.2.1 0 _ rfl
        simp only [Nat.add_zero] at h0
        clear hy
        go_simp
       simp only [pA,pB,pC,pD]
       refine rd1 6 ⟨some 77, _, _, _, _, none⟩ rfl (fun KK hKK => ?_)
       go_simp
       refine (name18_any y.name _ Z0.out).mono ?_
       rintro e wn ⟨rfl, rfl⟩
       rw [HRO.out]
       refine hKK.out _ _ hS (fun hS => ?_)
       clear hKK KK
       refine tz 7 78 (.bool false) rfl hS ?_
       simp only [pA,pB,pC,pD]
       refine tz 8 79 (.bool false) rfl hS ?_
       simp only [pA,pB,pC,pD]
       refine tz 9 80 (.int .i64 ((m : Int) + 1)) rfl hS ?_
       simp only [pA,pB,pC,pD]
       refine ty 10 ⟨some 81, _, _, _, _, some (8, false)⟩ (.bool true) rfl (by rfl) ?_ hS ?_
       ·intro wy hy
        clear hy
        first | (go_simp; done) | (go_simp; omega) | (go_simp; intro hh; omega)
       simp only [pA,pB,pC,pD]
       refine tz 11 82 (.bool true) rfl hS ?_
       simp only [pA,pB,pC,pD]
       refine tz 12 83 (.pointer (some ⟨w.heap.size, 3, none⟩)) rfl hS ?_
       simp only [pA,pB,pC,pD]
       refine ty 13 ⟨some 84, _, _, _, _, some (11, true)⟩ (.slice (some ⟨b, o, none⟩) x.berths.length c3) rfl (by rfl) ?_ hS ?_
       ·intro wy hy
        have h := id hy
        have h0 := h.1.cell (o := 3) rfl
        clear hy
        go_simp
       simp only [pA,pB,pC,pD]
       refine tz 14 85 (.int .i64 ((m : Int) + 1)) rfl hS ?_
       simp only [pA,pB,pC,pD]
       refine ty 15 ⟨some 86, _, _, _, _, some (11, true)⟩ (.int .i64 (m : Int)) rfl (by rfl) ?_ hS ?_
       ·intro wy hy
        clear hy
        first | (go_simp; done) | (go_simp; rw [IntKind.wrap_i64]; omega) | (go_simp; omega)
       simp only [pA,pB,pC,pD]
       refine ty 16 ⟨some 87, _, _, _, _, some (11, true)⟩ (.pointer (some ⟨b, o + m * 2, none⟩)) rfl (by rfl) ?_ hS ?_
       ·intro wy hy
        clear hy
        first | (go_simp; done) | (go_simp; omega) | (go_simp; intro hh; omega)
       simp only [pA,pB,pC,pD]
       refine tz 17 88 (.pointer (some ⟨b, o + m * 2, none⟩)) rfl hS ?_
       simp only [pA,pB,pC,pD]
       refine ty 18 ⟨some 89, _, _, _, _, some (11, true)⟩ (.string u.name) rfl (by rfl) ?_ hS ?_
       ·intro wy hy
        have h := id hy
        have h0 := h.2.2 0 _ rfl
        simp only [Nat.add_zero] at h0
        clear hy
        go_simp
       simp only [pA,pB,pC,pD]
       refine tz 19 90 (.pointer (some ⟨w.heap.size, 3, none⟩)) rfl hS ?_
       simp only [pA,pB,pC,pD]
       refine ty 20 ⟨some 91, _, _, _, _, some (11, true)⟩ (.slice (some ⟨b, o, none⟩) x.berths.length c3) rfl (by rfl) ?_ hS ?_
       ·intro wy hy
        have h := id hy
        have h0 := h.1.cell (o := 3) rfl
        clear hy
        go_simp
       simp only [pA,pB,pC,pD]
       refine tz 21 92 (.int .i64 ((m : Int) + 1)) rfl hS ?_
       simp only [pA,pB,pC,pD]
       refine ty 22 ⟨some 93, _, _, _, _, some (11, true)⟩ (.pointer (some ⟨b, o + (m + 1) * 2, none⟩)) rfl (by rfl) ?_ hS ?_
       ·intro wy hy
        clear hy
        first | (go_simp; done) | (go_simp; omega) | (go_simp; intro hh; omega)
       simp only [pA,pB,pC,pD]
       refine tz 23 94 (.pointer (some ⟨b, o + (m + 1) * 2, none⟩)) rfl hS ?_
       simp only [pA,pB,pC,pD]
       refine ty 24 ⟨some 95, _, _, _, _, some (11, true)⟩ (.string y.name) rfl (by rfl) ?_ hS ?_
       ·intro wy hy
        have h := id hy
        have h0 := h.2.1 0 _ rfl
        simp only [Nat.add_zero] at h0
        clear hy
        go_simp
       simp only [pA,pB,pC,pD]
       refine ty 25 ⟨some 96, _, _, _, _, some (11, true)⟩ (.bool (!Q)) rfl (by rfl) ?_ hS ?_
       ·intro wy hy
        clear hy
        go_simp; rw [HQ.out]
       simp only [pA,pB,pC,pD]
       refine tz 26 97 (.bool (!Q)) rfl hS ?_
       simp only [pA,pB,pC,pD]
       refine tz 27 98 (.bool (!Q)) rfl hS ?_
       simp only [pA,pB,pC,pD]
       refine wpAnyH_done (by kernel_rfl) ?_ _
       clear hS
       cases Q with
       | false =>
        go_wp2_with fail
        go_ret
        exact ⟨false, rfl, ⟨fun h => (by cases h), fun h => (by have h9 := h.b2 m u y HUU.out HYY.out; rw [HQ.out] at h9; cases h9)⟩, hB1.trans (HB.out.mono hB1.size)⟩
       | true =>
        have HA2 : Hid (∀ (j : Nat) u v, j + 1 < m + 1 + 1 → x.berths[j]? = some u → x.berths[j + 1]? = some v → Op.bytesLess u.name.toList v.name.toList = true) := by
         intro j p q hj hp hq
         by_cases e : j = m
         ·subst e; rw [HUU.out] at hp; rw [HYY.out] at hq; cases hp; cases hq; exact HQ.out
         ·exact hA.out j p q (by omega) hp hq
        go_wp2_with fail
        go_roundw
        case rel => first | exact ⟨m + 1 + 1, by omega, by go_num, HN2b, HA2, HB.out⟩ | ((repeat apply Exists.intro); exact ⟨⟨m + 1 + 1, by omega, by go_num, HN2b, HA2, HB.out⟩, rfl⟩)
        case measure => simp [intOf]; omega
   obtain ⟨y, hy⟩ : ∃ y, x.services[k]? = some y := ⟨x.services[k], List.getElem?_eq_getElem hlt⟩
   have HIR := Hid.intro (HN1.out.below SsvC.holds hB (Nat.le_refl _))
   obtain ⟨b, o, ea, _, hbl, hc⟩ := HIR.out.at hy
   subst ea
   have hz := hc
   obtain ⟨_, _, _, _, _, _, _, _, _, _, _, _, _, z0⟩ := hz
   have HRY := Hid.intro (rngSsv hc)
   have Z0 := Hid.intro z0
   have HYY := Hid.intro hy
   clear z0 hc hy
   go_upto_region 6 with fail
   clear kk
   cases hro : svB y x.now with
   | false =>
    have HRO := Hid.intro hro
    refine wp_region_held_drew (S := fun wy => Blk w.heap.size #[.int .i64 x.now, .slice (some ⟨b, o, none⟩) x.services.length c1, .slice a2 x.copies.length c2, .slice a3 x.berths.length c3] 34 wy ∧ wy.rangeAt b (o + k * 13) [.string y.name, .int .i64 y.version, .bool y.gone, .int .i64 y.image, .int .i64 y.want, .int .i64 y.down, .int .i64 y.over, .int .i64 y.next, .int .i64 y.per, .int .i64 y.least, .int .i64 y.most, .int .i64 y.load, .int .i64 y.cool]) (by kernel_rfl) ⟨HKW.out.drew, HRY.out⟩ (fun hS => ?_)
    have HB : Hid (Below w1.heap.size w1 wr.drew) := hBB.drew
    replace hbl : b < wr.drew.heap.size := hbl
    generalize wr.drew = wn at *
    refine tz 0 35 (.pointer (some ⟨w.heap.size, 1, none⟩)) rfl hS ?_
    simp only [pA,pB,pC,pD]
    refine ty 1 ⟨some 36, _, _, _, _, none⟩ (.slice (some ⟨b, o, none⟩) x.services.length c1) rfl (by rfl) ?_ hS ?_
    ·intro wy hy
     have h := id hy
     have h0 := h.1.cell (o := 1) rfl
     clear hy
     go_simp
    simp only [pA,pB,pC,pD]
    refine tz 2 37 (.int .i64 (k : Int)) rfl hS ?_
    simp only [pA,pB,pC,pD]
    refine ty 3 ⟨some 38, _, _, _, _, none⟩ (.pointer (some ⟨b, o + k * 13, none⟩)) rfl (by rfl) ?_ hS ?_
    ·intro wy hy
     clear hy
     first | (go_simp; done) | (go_simp; omega) | (go_simp; intro hh; omega)
    simp only [pA,pB,pC,pD]
    refine tm 4 39 b (o + k * 13) [.string y.name, .int .i64 y.version, .bool y.gone, .int .i64 y.image, .int .i64 y.want, .int .i64 y.down, .int .i64 y.over, .int .i64 y.next, .int .i64 y.per, .int .i64 y.least, .int .i64 y.most, .int .i64 y.load, .int .i64 y.cool] rfl (fun _ h => h.2) Tryz.underlying50 isz_Ssv hS ?_
    simp only [pA,pB,pC,pD]
    refine tz 5 40 (.pointer (some ⟨w.heap.size, 0, none⟩)) rfl hS ?_
    simp only [pA,pB,pC,pD]
    refine ty 6 ⟨some 41, _, _, _, _, none⟩ (.int .i64 x.now) rfl (by rfl) ?_ hS ?_
    ·intro wy hy
     have h := id hy
     have h0 := h.1.cell (o := 0) rfl
     clear hy
     go_simp
    simp only [pA,pB,pC,pD]
    refine rd1 7 ⟨some 42, _, _, _, _, none⟩ rfl (fun KK hKK => ?_)
    go_simp
    refine (service18_any y x.now _ Z0.out).mono ?_
    rintro e w5 ⟨rfl, hb⟩
    rw [HRO.out]
    replace HB : Hid (Below w1.heap.size w1 w5) := HB.out.trans (hb.mono HB.out.size)
    refine hKK.out _ _ ⟨hS.1.below hb hS.1.lt, rngB hS.2 hb hbl⟩ (fun hS => ?_)
    clear hKK KK
    replace hbl : b < w5.heap.size := Nat.lt_of_lt_of_le hbl hb.size
    clear hb
    generalize w5 = wn at *
    refine tz 8 43 (.bool true) rfl hS ?_
    simp only [pA,pB,pC,pD]
    refine tz 9 44 (.bool true) rfl hS ?_
    simp only [pA,pB,pC,pD]
    refine ts 10 45 rfl hS ?_
    simp only [pA,pB,pC,pD]
    refine ts 11 46 rfl hS ?_
    simp only [pA,pB,pC,pD]
    refine ts 12 47 rfl hS ?_
    simp only [pA,pB,pC,pD]
    refine ts 13 48 rfl hS ?_
    simp only [pA,pB,pC,pD]
    refine ts 14 49 rfl hS ?_
    simp only [pA,pB,pC,pD]
    refine ts 15 50 rfl hS ?_
    simp only [pA,pB,pC,pD]
    refine ts 16 51 rfl hS ?_
    simp only [pA,pB,pC,pD]
    refine ts 17 52 rfl hS ?_
    simp only [pA,pB,pC,pD]
    refine ts 18 53 rfl hS ?_
    simp only [pA,pB,pC,pD]
    refine ts 19 54 rfl hS ?_
    simp only [pA,pB,pC,pD]
    refine ts 20 55 rfl hS ?_
    simp only [pA,pB,pC,pD]
    refine ts 21 56 rfl hS ?_
    simp only [pA,pB,pC,pD]
    refine ts 22 57 rfl hS ?_
    simp only [pA,pB,pC,pD]
    refine ts 23 58 rfl hS ?_
    simp only [pA,pB,pC,pD]
    refine ts 24 59 rfl hS ?_
    simp only [pA,pB,pC,pD]
    refine ts 25 60 rfl hS ?_
    simp only [pA,pB,pC,pD]
    refine ts 26 61 rfl hS ?_
    simp only [pA,pB,pC,pD]
    refine ts 27 62 rfl hS ?_
    simp only [pA,pB,pC,pD]
    refine tz 28 63 (.bool true) rfl hS ?_
    simp only [pA,pB,pC,pD]
    refine wpAnyH_done (by kernel_rfl) ?_ _
    clear hS
    go_wp2_with fail
    go_ret
    exact ⟨false, rfl, ⟨fun h => (by cases h), fun h => (by have h9 := h.s1 k y HYY.out; rw [HRO.out] at h9; cases h9)⟩, hB1.trans (HB.out.mono hB1.size)⟩
   | true =>
    have HRO := Hid.intro hro
    have HN2s : Hid (∀ (j : Nat) y, j < k + 1 → x.services[j]? = some y → svB y x.now = true) := by
     intro j q hj hq
     by_cases e : j = k
     ·subst e; rw [HYY.out] at hq; cases hq; exact hro
     ·exact hN.out j q (by omega) hq
    clear hro
    cases k with
    | zero =>
     refine wp_region_held_drew (S := fun wy => Blk w.heap.size #[.int .i64 x.now, .slice (some ⟨b, o, none⟩) x.services.length c1, .slice a2 x.copies.length c2, .slice a3 x.berths.length c3] 34 wy ∧ wy.rangeAt b (o + 0 * 13) [.string y.name, .int .i64 y.version, .bool y.gone, .int .i64 y.image, .int .i64 y.want, .int .i64 y.down, .int .i64 y.over, .int .i64 y.next, .int .i64 y.per, .int .i64 y.least, .int .i64 y.most, .int .i64 y.load, .int .i64 y.cool]) (by kernel_rfl) ⟨HKW.out.drew, HRY.out⟩ (fun hS => ?_)
     have HB : Hid (Below w1.heap.size w1 wr.drew) := hBB.drew
     replace hbl : b < wr.drew.heap.size := hbl
     generalize wr.drew = wn at *
     refine tz 0 35 (.pointer (some ⟨w.heap.size, 1, none⟩)) rfl hS ?_
     simp only [pA,pB,pC,pD]
     refine ty 1 ⟨some 36, _, _, _, _, none⟩ (.slice (some ⟨b, o, none⟩) x.services.length c1) rfl (by rfl) ?_ hS ?_
     ·intro wy hy
      have h := id hy
      have h0 := h.1.cell (o := 1) rfl
      clear hy
      go_simp
     simp only [pA,pB,pC,pD]
     refine tz 2 37 (.int .i64 ((0 : Nat) : Int)) rfl hS ?_
     simp only [pA,pB,pC,pD]
     refine ty 3 ⟨some 38, _, _, _, _, none⟩ (.pointer (some ⟨b, o + 0 * 13, none⟩)) rfl (by rfl) ?_ hS ?_
     ·intro wy hy
      clear hy
      first | (go_simp; done) | (go_simp; omega) | (go_simp; intro hh; omega)
     simp only [pA,pB,pC,pD]
     refine tm 4 39 b (o + 0 * 13) [.string y.name, .int .i64 y.version, .bool y.gone, .int .i64 y.image, .int .i64 y.want, .int .i64 y.down, .int .i64 y.over, .int .i64 y.next, .int .i64 y.per, .int .i64 y.least, .int .i64 y.most, .int .i64 y.load, .int .i64 y.cool] rfl (fun _ h => h.2) Tryz.underlying50 isz_Ssv hS ?_
     simp only [pA,pB,pC,pD]
     refine tz 5 40 (.pointer (some ⟨w.heap.size, 0, none⟩)) rfl hS ?_
     simp only [pA,pB,pC,pD]
     refine ty 6 ⟨some 41, _, _, _, _, none⟩ (.int .i64 x.now) rfl (by rfl) ?_ hS ?_
     ·intro wy hy
      have h := id hy
      have h0 := h.1.cell (o := 0) rfl
      clear hy
      go_simp
     simp only [pA,pB,pC,pD]
     refine rd1 7 ⟨some 42, _, _, _, _, none⟩ rfl (fun KK hKK => ?_)
     go_simp
     refine (service18_any y x.now _ Z0.out).mono ?_
     rintro e w5 ⟨rfl, hb⟩
     rw [HRO.out]
     replace HB : Hid (Below w1.heap.size w1 w5) := HB.out.trans (hb.mono HB.out.size)
     refine hKK.out _ _ ⟨hS.1.below hb hS.1.lt, rngB hS.2 hb hbl⟩ (fun hS => ?_)
     clear hKK KK
     replace hbl : b < w5.heap.size := Nat.lt_of_lt_of_le hbl hb.size
     clear hb
     generalize w5 = wn at *
     refine tz 8 43 (.bool false) rfl hS ?_
     simp only [pA,pB,pC,pD]
     refine tz 9 44 (.bool false) rfl hS ?_
     simp only [pA,pB,pC,pD]
     refine tz 10 45 (.int .i64 ((0 : Nat) : Int)) rfl hS ?_
     simp only [pA,pB,pC,pD]
     refine ty 11 ⟨some 46, _, _, _, _, some (9, false)⟩ (.bool false) rfl (by rfl) ?_ hS ?_
     ·intro wy hy
      clear hy
      first | (go_simp; done) | (go_simp; omega) | (go_simp; intro hh; omega)
     simp only [pA,pB,pC,pD]
     refine tz 12 47 (.bool false) rfl hS ?_
     simp only [pA,pB,pC,pD]
     refine ts 13 48 rfl hS ?_
     simp only [pA,pB,pC,pD]
     refine ts 14 49 rfl hS ?_
     simp only [pA,pB,pC,pD]
     refine ts 15 50 rfl hS ?_
     simp only [pA,pB,pC,pD]
     refine ts 16 51 rfl hS ?_
     simp only [pA,pB,pC,pD]
     refine ts 17 52 rfl hS ?_
     simp only [pA,pB,pC,pD]
     refine ts 18 53 rfl hS ?_
     simp only [pA,pB,pC,pD]
     refine ts 19 54 rfl hS ?_
     simp only [pA,pB,pC,pD]
     refine ts 20 55 rfl hS ?_
     simp only [pA,pB,pC,pD]
     refine ts 21 56 rfl hS ?_
     simp only [pA,pB,pC,pD]
     refine ts 22 57 rfl hS ?_
     simp only [pA,pB,pC,pD]
     refine ts 23 58 rfl hS ?_
     simp only [pA,pB,pC,pD]
     refine ts 24 59 rfl hS ?_
     simp only [pA,pB,pC,pD]
     refine ts 25 60 rfl hS ?_
     simp only [pA,pB,pC,pD]
     refine ts 26 61 rfl hS ?_
     simp only [pA,pB,pC,pD]
     refine tz 27 62 (.bool false) rfl hS ?_
     simp only [pA,pB,pC,pD]
     refine tz 28 63 (.bool false) rfl hS ?_
     simp only [pA,pB,pC,pD]
     refine wpAnyH_done (by kernel_rfl) ?_ _
     clear hS
     go_wp2_with fail
     go_roundw
     case rel => first | exact ⟨0 + 1, by omega, by go_num, HN2s, (Hid.intro (fun j u v h => by omega)), HB.out⟩ | ((repeat apply Exists.intro); exact ⟨⟨0 + 1, by omega, by go_num, HN2s, (Hid.intro (fun j u v h => by omega)), HB.out⟩, rfl⟩)
     case measure => simp [intOf]; omega
    | succ m =>
     obtain ⟨u, hu⟩ : ∃ u, x.services[m]? = some u := ⟨x.services[m], List.getElem?_eq_getElem (by omega)⟩
     obtain ⟨b', o', e', _, _, hcx⟩ := HIR.out.at hu
     cases e'
     have HRX := Hid.intro (rngSsv hcx)
     have HUU := Hid.intro hu
     generalize hq : Op.bytesLess u.name.toList y.name.toList = Q
     have HQ := Hid.intro hq
     clear hq hu hcx HIR
     refine wp_region_held_drew (S := fun wy => Blk w.heap.size #[.int .i64 x.now, .slice (some ⟨b, o, none⟩) x.services.length c1, .slice a2 x.copies.length c2, .slice a3 x.berths.length c3] 34 wy ∧ wy.rangeAt b (o + (m + 1) * 13) [.string y.name, .int .i64 y.version, .bool y.gone, .int .i64 y.image, .int .i64 y.want, .int .i64 y.down, .int .i64 y.over, .int .i64 y.next, .int .i64 y.per, .int .i64 y.least, .int .i64 y.most, .int .i64 y.load, .int .i64 y.cool] ∧ wy.rangeAt b (o + m * 13) [.string u.name, .int .i64 u.version, .bool u.gone, .int .i64 u.image, .int .i64 u.want, .int .i64 u.down, .int .i64 u.over, .int .i64 u.next, .int .i64 u.per, .int .i64 u.least, .int .i64 u.most, .int .i64 u.load, .int .i64 u.cool]) (by kernel_rfl) ⟨HKW.out.drew, HRY.out, HRX.out⟩ (fun hS => ?_)
     have HB : Hid (Below w1.heap.size w1 wr.drew) := hBB.drew
     replace hbl : b < wr.drew.heap.size := hbl
     generalize wr.drew = wn at *
     refine tz 0 35 (.pointer (some ⟨w.heap.size, 1, none⟩)) rfl hS ?_
     simp only [pA,pB,pC,pD]
     refine ty 1 ⟨some 36, _, _, _, _, none⟩ (.slice (some ⟨b, o, none⟩) x.services.length c1) rfl (by rfl) ?_ hS ?_
     ·intro wy hy
      have h := id hy
      have h0 := h.1.cell (o := 1) rfl
      clear hy
      go_simp
     simp only [pA,pB,pC,pD]
     refine tz 2 37 (.int .i64 ((m : Int) + 1)) rfl hS ?_
     simp only [pA,pB,pC,pD]
     refine ty 3 ⟨some 38, _, _, _, _, none⟩ (.pointer (some ⟨b, o + (m + 1) * 13, none⟩)) rfl (by rfl) ?_ hS ?_
     ·intro wy hy
      clear hy
      first | (go_simp; done) | (go_simp; omega) | (go_simp; intro hh; omega)
     simp only [pA,pB,pC,pD]
     refine tk 4 ⟨some 39, _, _, _, _, none⟩ (.agg #[.string y.name, .int .i64 y.version, .bool y.gone, .int .i64 y.image, .int .i64 y.want, .int .i64 y.down, .int .i64 y.over, .int .i64 y.next, .int .i64 y.per, .int .i64 y.least, .int .i64 y.most, .int .i64 y.load, .int .i64 y.cool]) rfl (yieldsIf_load_mid (by rfl) _ _ rfl b (o + (m + 1) * 13) rfl [.string y.name, .int .i64 y.version, .bool y.gone, .int .i64 y.image, .int .i64 y.want, .int .i64 y.down, .int .i64 y.over, .int .i64 y.next, .int .i64 y.per, .int .i64 y.least, .int .i64 y.most, .int .i64 y.load, .int .i64 y.cool] _ (fun _ h => h.2.1) Tryz.underlying50 rfl isz_Ssv) hS ?_
     simp only [pA,pB,pC,pD]
     refine tz 5 40 (.pointer (some ⟨w.heap.size, 0, none⟩)) rfl hS ?_
     simp only [pA,pB,pC,pD]
     refine ty 6 ⟨some 41, _, _, _, _, none⟩ (.int .i64 x.now) rfl (by rfl) ?_ hS ?_
     ·intro wy hy
      have h := id hy
      have h0 := h.1.cell (o := 0) rfl
      clear hy
      go_simp
     simp only [pA,pB,pC,pD]
     refine rd1 7 ⟨some 42, _, _, _, _, none⟩ rfl (fun KK hKK => ?_)
     go_simp
     refine (service18_any y x.now _ Z0.out).mono ?_
     rintro e w5 ⟨rfl, hb⟩
     rw [HRO.out]
     replace HB : Hid (Below w1.heap.size w1 w5) := HB.out.trans (hb.mono HB.out.size)
     refine hKK.out _ _ ⟨hS.1.below hb hS.1.lt, rngB hS.2.1 hb hbl, rngB hS.2.2 hb hbl⟩ (fun hS => ?_)
     clear hKK KK
     replace hbl : b < w5.heap.size := Nat.lt_of_lt_of_le hbl hb.size
     clear hb
     generalize w5 = wn at *
     refine tz 8 43 (.bool false) rfl hS ?_
     simp only [pA,pB,pC,pD]
     refine tz 9 44 (.bool false) rfl hS ?_
     simp only [pA,pB,pC,pD]
     refine tz 10 45 (.int .i64 ((m : Int) + 1)) rfl hS ?_
     simp only [pA,pB,pC,pD]
     refine ty 11 ⟨some 46, _, _, _, _, some (9, false)⟩ (.bool true) rfl (by rfl) ?_ hS ?_
     ·intro wy hy
      clear hy
      first | (go_simp; done) | (go_simp; omega) | (go_simp; intro hh; omega)
     simp only [pA,pB,pC,pD]
     refine tz 12 47 (.bool true) rfl hS ?_
     simp only [pA,pB,pC,pD]
     refine tz 13 48 (.pointer (some ⟨w.heap.size, 1, none⟩)) rfl hS ?_
     simp only [pA,pB,pC,pD]
     refine ty 14 ⟨some 49, _, _, _, _, some (12, true)⟩ (.slice (some ⟨b, o, none⟩) x.services.length c1) rfl (by rfl) ?_ hS ?_
     ·intro wy hy
      have h := id hy
      have h0 := h.1.cell (o := 1) rfl
      clear hy
      go_simp
     simp only [pA,pB,pC,pD]
     refine tz 15 50 (.int .i64 ((m : Int) + 1)) rfl hS ?_
     simp only [pA,pB,pC,pD]
     refine ty 16 ⟨some 51, _, _, _, _, some (12, true)⟩ (.int .i64 (m : Int)) rfl (by rfl) ?_ hS ?_
     ·intro wy hy
      clear hy
      first | (go_simp; done) | (go_simp; rw [IntKind.wrap_i64]; omega) | (go_simp; omega)
     simp only [pA,pB,pC,pD]
     refine ty 17 ⟨some 52, _, _, _, _, some (12, true)⟩ (.pointer (some ⟨b, o + m * 13, none⟩)) rfl (by rfl) ?_ hS ?_
     ·intro wy hy
      clear hy
      first | (go_simp; done) | (go_simp; omega) | (go_simp; intro hh; omega)
     simp only [pA,pB,pC,pD]
     refine tz 18 53 (.pointer (some ⟨b, o + m * 13, none⟩)) rfl hS ?_
     simp only [pA,pB,pC,pD]
     refine ty 19 ⟨some 54, _, _, _, _, some (12, true)⟩ (.string u.name) rfl (by rfl) ?_ hS ?_
     ·intro wy hy
      have h := id hy
      have h0 := h.2.2 0 _ rfl
      simp only [Nat.add_zero] at h0
      clear hy
      go_simp
     simp only [pA,pB,pC,pD]
     refine tz 20 55 (.pointer (some ⟨w.heap.size, 1, none⟩)) rfl hS ?_
     simp only [pA,pB,pC,pD]
     refine ty 21 ⟨some 56, _, _, _, _, some (12, true)⟩ (.slice (some ⟨b, o, none⟩) x.services.length c1) rfl (by rfl) ?_ hS ?_
     ·intro wy hy
      have h := id hy
      have h0 := h.1.cell (o := 1) rfl
      clear hy
      go_simp
     simp only [pA,pB,pC,pD]
     refine tz 22 57 (.int .i64 ((m : Int) + 1)) rfl hS ?_
     simp only [pA,pB,pC,pD]
     refine ty 23 ⟨some 58, _, _, _, _, some (12, true)⟩ (.pointer (some ⟨b, o + (m + 1) * 13, none⟩)) rfl (by rfl) ?_ hS ?_
     ·intro wy hy
      clear hy
      first | (go_simp; done) | (go_simp; omega) | (go_simp; intro hh; omega)
     simp only [pA,pB,pC,pD]
     refine tz 24 59 (.pointer (some ⟨b, o + (m + 1) * 13, none⟩)) rfl hS ?_
     simp only [pA,pB,pC,pD]
     refine ty 25 ⟨some 60, _, _, _, _, some (12, true)⟩ (.string y.name) rfl (by rfl) ?_ hS ?_
     ·intro wy hy
      have h := id hy
      have h0 := h.2.1 0 _ rfl
      simp only [Nat.add_zero] at h0
      clear hy
      go_simp
     simp only [pA,pB,pC,pD]
     refine ty 26 ⟨some 61, _, _, _, _, some (12, true)⟩ (.bool (!Q)) rfl (by rfl) ?_ hS ?_
     ·intro wy hy
      clear hy
      go_simp; rw [HQ.out]
     simp only [pA,pB,pC,pD]
     refine tz 27 62 (.bool (!Q)) rfl hS ?_
     simp only [pA,pB,pC,pD]
     refine tz 28 63 (.bool (!Q)) rfl hS ?_
     simp only [pA,pB,pC,pD]
     refine wpAnyH_done (by kernel_rfl) ?_ _
     clear hS
     cases Q with
     | false =>
      go_wp2_with fail
      go_ret
      exact ⟨false, rfl, ⟨fun h => (by cases h), fun h => (by have h9 := h.s2 m u y HUU.out HYY.out; rw [HQ.out] at h9; cases h9)⟩, hB1.trans (HB.out.mono hB1.size)⟩
     | true =>
      have HA2 : Hid (∀ (j : Nat) u v, j + 1 < m + 1 + 1 → x.services[j]? = some u → x.services[j + 1]? = some v → Op.bytesLess u.name.toList v.name.toList = true) := by
       intro j p q hj hp hq
       by_cases e : j = m
       ·subst e; rw [HUU.out] at hp; rw [HYY.out] at hq; cases hp; cases hq; exact HQ.out
       ·exact hA.out j p q (by omega) hp hq
      go_wp2_with fail
      go_roundw
      case rel => first | exact ⟨m + 1 + 1, by omega, by go_num, HN2s, HA2, HB.out⟩ | ((repeat apply Exists.intro); exact ⟨⟨m + 1 + 1, by omega, by go_num, HN2s, HA2, HB.out⟩, rfl⟩)
      case measure => simp [intOf]; omega

end Go.Proofs.YtnggdpjfmpjlhaaGreat
