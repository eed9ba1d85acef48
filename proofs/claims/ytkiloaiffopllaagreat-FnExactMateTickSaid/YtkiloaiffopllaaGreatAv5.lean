import Derived.Test.YtkiloaiffopllaaGreatAv2
import Derived.Test.YtkiloaiffopllaaGreatAv4
set_option maxHeartbeats 16000000
set_option maxRecDepth 100000
namespace Go.Proofs.YtkiloaiffopllaaGreat
open Go.RowKit
theorem aN (h:BA) (xs:List Aks):(akI h xs).isSome=xs.any (fun g=>decide (g.hold=h)):=by
 unfold akI;exact List.findIdx?_isSome
theorem Iq (x:Mte) (a5:OA) (c5:Nat) (a6:OA) (c6:Nat) (a7:OA) (c7:Nat) (a8:OA) (c8:Nat) (lo:Nat) (w:World) (hin:MSl x lo a5 a6 a7 a8 w) :
  Calls Tryz.prog 17 #[.agg (mmA x a5 c5 a6 c6 a7 c7 a8 c8)] w (Rt (.bool (mvB x)) w):=by
 have HI:=iH hin;clear hin;have HK1:=iH (Blk.alloc w (mmA x a5 c5 a6 c6 a7 c7 a8 c8) 32);have hB1:=(Below.refl _ w).alloc nL (Obj.cells (mmA x a5 c5 a6 c6 a7 c7 a8 c8) 32);go_enter Tryz.func17,Tryz.ntmps17;go_upto_region 1 with fail;generalize w.alloc (Obj.cells (mmA x a5 c5 a6 c6 a7 c7 a8 c8) 32)=w1 at *;have k0:w1.cell? ⟨w.heap.size,0,none⟩=some (.string x.name):=HK1.out.cell rfl;have k2:w1.cell? ⟨w.heap.size,2,none⟩=some (.int .i64 x.clock):=HK1.out.cell rfl;have k4:w1.cell? ⟨w.heap.size,4,none⟩=some (.int .i64 x.seen):=HK1.out.cell rfl;have k5:w1.cell? ⟨w.heap.size,5,none⟩=some (.slice a5 x.wants.length c5):=HK1.out.cell rfl
 go_cut [61] (fun r wz=>∃ v:Bool,r=.bool (!v)∧Hid (Blk w.heap.size (mmA x a5 c5 a6 c6 a7 c7 a8 c8) 32 wz)∧Below w.heap.size w wz∧Hid (v=false→mvB x=false)∧Hid (v=true→nmB x.name=true∧inR x.clock 0 1000000=true∧inR x.seen 0 1000000=true∧wsB x.wants=true∧(x.known || decide (x.wants.length=0))=true∧rsB x.runs x.clock=true∧Ea x.asks x.clock=true∧Ea x.gives x.clock=true))
 case first =>
  go_wp2_with fail;refine (Cv x.name _ HI.out.nm).mono ?_;rintro e v0 ⟨rfl,rfl⟩
  cases g0:nmB x.name with
  | false =>
   have HE:Hid (mvB x=false):=by show _=_;unfold mvB;rw [g0];simp
   go_wp2_with fail;go_meet;exact ⟨false,rfl,HK1,hB1,fun _=>HE.out,fun h=>by cases h⟩
  | true =>
   go_wp2_with fail;refine (Bb x.clock 0 1000000 _).mono ?_;rintro e v1 ⟨rfl,rfl⟩
   cases g1:inR x.clock 0 1000000 with
   | false =>
    have HE:Hid (mvB x=false):=by show _=_;unfold mvB;rw [g1];simp
    go_wp2_with fail;go_meet;exact ⟨false,rfl,HK1,hB1,fun _=>HE.out,fun h=>by cases h⟩
   | true =>
    go_wp2_with fail;refine (Bb x.seen 0 1000000 _).mono ?_;rintro e v2 ⟨rfl,rfl⟩
    cases g2:inR x.seen 0 1000000 with
    | false =>
     have HE:Hid (mvB x=false):=by show _=_;unfold mvB;rw [g2];simp
     go_wp2_with fail;go_meet;exact ⟨false,rfl,HK1,hB1,fun _=>HE.out,fun h=>by cases h⟩
    | true =>
     go_wp2_with fail;refine (Lk x.wants a5 c5 lo _ (HI.out.s5.below WntC.holds hB1 nL) HI.out.l5).mono ?_;rintro e w2 ⟨rfl,hb2⟩;have HK2:=qBk HK1 hb2;have hB2:=qTr hB1 hb2;clear hb2 HK1 hB1;clear k0 k2 k4 k5;have k2:w2.cell? ⟨w.heap.size,2,none⟩=some (.int .i64 x.clock):=HK2.out.cell rfl;have k3:w2.cell? ⟨w.heap.size,3,none⟩=some (.bool x.known):=HK2.out.cell rfl;have k5:w2.cell? ⟨w.heap.size,5,none⟩=some (.slice a5 x.wants.length c5):=HK2.out.cell rfl;have k6:w2.cell? ⟨w.heap.size,6,none⟩=some (.slice a6 x.runs.length c6):=HK2.out.cell rfl
     cases g3:wsB x.wants with
     | false =>
      have HE:Hid (mvB x=false):=by show _=_;unfold mvB;rw [g3];simp
      go_wp2_with fail;go_meet;exact ⟨false,rfl,HK2,hB2,fun _=>HE.out,fun h=>by cases h⟩
     | true =>
      have HG:Hid (nmB x.name=true∧inR x.clock 0 1000000=true∧inR x.seen 0 1000000=true∧wsB x.wants=true):=⟨g0,g1,g2,g3⟩;clear g0 g1 g2 g3;by_cases hz:x.wants.length=0
      ·have hz0:(x.wants.length:Int)≤0:=by omega
       have HZ:Hid (decide (x.wants.length=0)=true):=decide_eq_true hz;clear hz;have HG4:Hid ((x.known || decide (x.wants.length=0))=true):=by show _=_;rw [HZ.out];simp
       skip;go_wp2_with fail;refine (Hi x.runs a6 c6 lo x.clock _ (HI.out.s6.below RnC.holds hB2 nL) HI.out.l6).mono ?_;rintro e w3 ⟨rfl,hb3⟩;have HK3:=qBk HK2 hb3;have hB3:=qTr hB2 hb3;clear hb3 HK2 hB2;clear k2 k3 k5 k6;have k2:w3.cell? ⟨w.heap.size,2,none⟩=some (.int .i64 x.clock):=HK3.out.cell rfl;have k7:w3.cell? ⟨w.heap.size,7,none⟩=some (.slice a7 x.asks.length c7):=HK3.out.cell rfl
       cases g5:rsB x.runs x.clock with
       | false =>
        have HE:Hid (mvB x=false):=by show _=_;unfold mvB;rw [g5];simp
        go_wp2_with fail;go_meet;exact ⟨false,rfl,HK3,hB3,fun _=>HE.out,fun h=>by cases h⟩
       | true =>
        have HG5:=iH g5;clear g5;go_wp2_with fail;refine (Eb x.asks a7 c7 lo x.clock _ (HI.out.s7.below AksC.holds hB3 nL) HI.out.l7).mono ?_;rintro e w4 ⟨rfl,hb4⟩;have HK4:=qBk HK3 hb4;have hB4:=qTr hB3 hb4;clear hb4 HK3 hB3;clear k2 k7;have k2:w4.cell? ⟨w.heap.size,2,none⟩=some (.int .i64 x.clock):=HK4.out.cell rfl;have k8:w4.cell? ⟨w.heap.size,8,none⟩=some (.slice a8 x.gives.length c8):=HK4.out.cell rfl
        cases g6:Ea x.asks x.clock with
        | false =>
         have HE:Hid (mvB x=false):=by show _=_;unfold mvB;rw [g6];simp
         go_wp2_with fail;go_meet;exact ⟨false,rfl,HK4,hB4,fun _=>HE.out,fun h=>by cases h⟩
        | true =>
         have HG6:=iH g6;clear g6;go_wp2_with fail;refine (Eb x.gives a8 c8 lo x.clock _ (HI.out.s8.below AksC.holds hB4 nL) HI.out.l8).mono ?_;rintro e w5 ⟨rfl,hb5⟩;have HK5:=qBk HK4 hb5;have hB5:=qTr hB4 hb5;clear hb5 HK4 hB4 k2 k8
         cases g7:Ea x.gives x.clock with
         | false =>
          have HE:Hid (mvB x=false):=by show _=_;unfold mvB;rw [g7];simp
          go_wp2_with fail;go_meet;exact ⟨false,rfl,HK5,hB5,fun _=>HE.out,fun h=>by cases h⟩
         | true =>
          have HG7:=iH g7;clear g7;go_wp2_with fail;go_meet;exact ⟨true,rfl,HK5,hB5,(fun h=>by cases h),fun _=>⟨HG.out.1,HG.out.2.1,HG.out.2.2.1,HG.out.2.2.2,HG4,HG5,HG6,HG7⟩⟩
      ·have hz0:(0:Int)<(x.wants.length:Int):=by omega
       have hkn:x.known=false∨x.known=true:=by cases x.known <;> simp
       rcases hkn with g4 | g4
       ·rw [g4] at k3
        have HE:Hid (mvB x=false):=by show _=_;unfold mvB;rw [g4,decide_eq_false hz];simp
        clear hz g4;go_wp2_with fail;go_meet;exact ⟨false,rfl,HK2,hB2,fun _=>HE.out,fun h=>by cases h⟩
       ·rw [g4] at k3
        clear hz;have HG4:Hid ((x.known || decide (x.wants.length=0))=true):=by show _=_;rw [g4];simp
        clear g4;go_wp2_with fail;refine (Hi x.runs a6 c6 lo x.clock _ (HI.out.s6.below RnC.holds hB2 nL) HI.out.l6).mono ?_;rintro e w3 ⟨rfl,hb3⟩;have HK3:=qBk HK2 hb3;have hB3:=qTr hB2 hb3;clear hb3 HK2 hB2;clear k2 k3 k5 k6;have k2:w3.cell? ⟨w.heap.size,2,none⟩=some (.int .i64 x.clock):=HK3.out.cell rfl;have k7:w3.cell? ⟨w.heap.size,7,none⟩=some (.slice a7 x.asks.length c7):=HK3.out.cell rfl
        cases g5:rsB x.runs x.clock with
        | false =>
         have HE:Hid (mvB x=false):=by show _=_;unfold mvB;rw [g5];simp
         go_wp2_with fail;go_meet;exact ⟨false,rfl,HK3,hB3,fun _=>HE.out,fun h=>by cases h⟩
        | true =>
         have HG5:=iH g5;clear g5;go_wp2_with fail;refine (Eb x.asks a7 c7 lo x.clock _ (HI.out.s7.below AksC.holds hB3 nL) HI.out.l7).mono ?_;rintro e w4 ⟨rfl,hb4⟩;have HK4:=qBk HK3 hb4;have hB4:=qTr hB3 hb4;clear hb4 HK3 hB3;clear k2 k7;have k2:w4.cell? ⟨w.heap.size,2,none⟩=some (.int .i64 x.clock):=HK4.out.cell rfl;have k8:w4.cell? ⟨w.heap.size,8,none⟩=some (.slice a8 x.gives.length c8):=HK4.out.cell rfl
         cases g6:Ea x.asks x.clock with
         | false =>
          have HE:Hid (mvB x=false):=by show _=_;unfold mvB;rw [g6];simp
          go_wp2_with fail;go_meet;exact ⟨false,rfl,HK4,hB4,fun _=>HE.out,fun h=>by cases h⟩
         | true =>
          have HG6:=iH g6;clear g6;go_wp2_with fail;refine (Eb x.gives a8 c8 lo x.clock _ (HI.out.s8.below AksC.holds hB4 nL) HI.out.l8).mono ?_;rintro e w5 ⟨rfl,hb5⟩;have HK5:=qBk HK4 hb5;have hB5:=qTr hB4 hb5;clear hb5 HK4 hB4 k2 k8
          cases g7:Ea x.gives x.clock with
          | false =>
           have HE:Hid (mvB x=false):=by show _=_;unfold mvB;rw [g7];simp
           go_wp2_with fail;go_meet;exact ⟨false,rfl,HK5,hB5,fun _=>HE.out,fun h=>by cases h⟩
          | true =>
           have HG7:=iH g7;clear g7;go_wp2_with fail;go_meet;exact ⟨true,rfl,HK5,hB5,(fun h=>by cases h),fun _=>⟨HG.out.1,HG.out.2.1,HG.out.2.2.1,HG.out.2.2.2,HG4,HG5,HG6,HG7⟩⟩
 case rest =>
  clear HK1 hB1 k0 k2 k4 k5;obtain ⟨v,rfl,HK,hB,HN,HY⟩:=hcut
  cases v with
  | false =>
   have HE:=iH (HN rfl);go_wp2_with fail;go_ret;exact ⟨Ac HE.out.symm,hB⟩
  | true =>
   replace HY:=iH (HY rfl);clear HN;have k7:wc.cell? ⟨w.heap.size,7,none⟩=some (.slice a7 x.asks.length c7):=HK.out.cell rfl;go_wp2_with fail;go_loopw [3] (fun i wr=>∃ k:Nat,k≤x.asks.length∧i=.int .i64 k∧Hid (∀ (j:Nat) y,j<k→x.asks[j]?=some y→x.gives.any (fun g=>decide (g.hold=y.hold))=false)∧Hid (Blk w.heap.size (mmA x a5 c5 a6 c6 a7 c7 a8 c8) 32 wr)∧Below w.heap.size w wr) (fun i _=>x.asks.length - (intOf i).toNat)
   case atStart=>exact ⟨0,zL,rfl,fun j q h=>by omega,HK,hB⟩
   case round =>
    clear HK hB k7;obtain ⟨k,hk,rfl,hN,HK,hB⟩:=hrel;have hl7:=HI.out.l7;by_cases hlt:k<x.asks.length
    case pos =>
     obtain ⟨y,hy⟩:=gXe hlt;obtain ⟨b,o,e7,_,hbl,hc⟩:=(HI.out.s7.below AksC.holds hB nL).at hy;subst e7;obtain ⟨q0,_⟩:=hc;simp only [Nat.add_zero] at q0;have HQ0:=iH q0;have HXX:=iH hy;clear hy q0;have k7:wr.cell? ⟨w.heap.size,7,none⟩=some (.slice (some ⟨b,o,none⟩) x.asks.length c7):=HK.out.cell rfl;go_wp2_with fail;refine wp_region_held_drew (S:=fun wy=>Blk w.heap.size (mmA x a5 c5 a6 c6 (some ⟨b,o,none⟩) c7 a8 c8) 32 wy∧wy.cell? ⟨b,o+k*4,none⟩=some (.string y.hold)) (by kernel_rfl) ⟨HK.out.drew,by simpa using HQ0.out⟩ (fun hS=>?_);have hBd:Below w.heap.size w wr.drew:=hB.drew;have HKd:Hid (Blk w.heap.size (mmA x a5 c5 a6 c6 (some ⟨b,o,none⟩) c7 a8 c8) 32 wr.drew):=HK.out.drew;clear k7 HQ0 HK hB;generalize wr.drew=wd at *;refine tz 0 69 (.pointer (some ⟨w.heap.size,8,none⟩)) rfl hS ?_;simp only [pX];refine tl 1 70 (.slice a8 x.gives.length c8) ⟨w.heap.size,8,none⟩ rfl (fun wy hy=>hy.1.cell rfl) hS ?_;simp only [pX];refine tz 2 71 (.pointer (some ⟨w.heap.size,7,none⟩)) rfl hS ?_;simp only [pX];refine tl 3 72 (.slice (some ⟨b,o,none⟩) x.asks.length c7) ⟨w.heap.size,7,none⟩ rfl (fun wy hy=>hy.1.cell rfl) hS ?_;simp only [pX];refine tz 4 73 (.int .i64 (k:Int)) rfl hS ?_;simp only [pX];refine ty 5 ⟨some 74,_,_,_,_,none⟩ (.pointer (some ⟨b,o+k*4,none⟩)) rfl (by rfl) ?_ hS ?_
     ·intro wy hy
      clear hy
      first | (go_simp;done) | (go_simp;intro hh;omega)
     simp only [pX];refine tz 6 75 (.pointer (some ⟨b,o+k*4,none⟩)) rfl hS ?_;simp only [pX];refine ty 7 ⟨some 76,_,_,_,_,none⟩ (.string y.hold) rfl (by rfl) ?_ hS ?_
     ·intro wy hy
      have h0:=hy.2;clear hy;go_simp
     simp only [pX];refine rd1 8 ⟨some 77,_,_,_,_,none⟩ rfl (fun K hK=>?_);go_simp;refine (Fx y.hold x.gives a8 c8 lo _ (HI.out.s8.below AksC.holds hBd nL) HI.out.l8).mono ?_;rintro e w5 ⟨rfl,hb5⟩;have hB5:=qTr hBd hb5;have HK5:=qBk HKd hb5;refine hK.out _ _ ⟨hS.1.below hb5 hS.1.lt,(hb5.cell (p:=⟨b,o+k*4,none⟩) (block_lt_of_cell hS.2)).trans hS.2⟩ (fun hS=>?_);clear hK K;clear hb5 hBd HKd;have HAI:=iH (aN y.hold x.gives)
     cases hq:akI y.hold x.gives with
     | some p =>
      have HE:Hid (mvB x=false):=by
       have:apB x.asks x.gives=false:=Xz HXX (by rw [← HAI.out,hq];rfl);show _=_
       unfold mvB;rw [this];simp
      have hp:(0:Int)≤(p:Int):=by omega
      refine ty 9 ⟨some 78,_,_,_,_,none⟩ (.bool true) rfl (by rfl) ?_ hS ?_
      ·intro wy hy
       clear hy;go_simp;show (0:Int)≤(p:Int);omega
      simp only [pX];refine td ?_;clear hS;go_wp2_with fail;go_ret;exact ⟨Ac HE.out.symm,hB5⟩
     | none =>
      have HN2:Hid (∀ (j:Nat) z,j<k+1→x.asks[j]?=some z→x.gives.any (fun g=>decide (g.hold=z.hold))=false):=fun j z hj hz=>by
       by_cases e:j=k
       ·subst e
        have:=HXX.out.symm.trans hz;cases this
        rw [← HAI.out,hq];rfl
       ·exact hN.out j z (by omega) hz
      refine ty 9 ⟨some 78,_,_,_,_,none⟩ (.bool false) rfl (by rfl) ?_ hS ?_
      ·intro wy hy
       clear hy;go_simp;show (-1:Int)<0;omega
      simp only [pX];refine td ?_;clear hS;go_wp2_with fail;go_roundw
      case rel=>(repeat apply Exists.intro);exact ⟨⟨k+1,by omega,by go_num,HN2,HK5,hB5⟩,rfl⟩
      case measure=>simp [intOf];omega
    case neg =>
     have hke:k=x.asks.length:=by omega
     subst hke;have HAP:=iH (Vz hN.out);clear hN hk hlt hl7;have k1:wr.cell? ⟨w.heap.size,1,none⟩=some (.bool x.up):=HK.out.cell rfl;have k7:wr.cell? ⟨w.heap.size,7,none⟩=some (.slice a7 x.asks.length c7):=HK.out.cell rfl
     try unfold mmA
     cases hu:x.up with
     | true =>
      rw [hu] at k1;have HE:Hid (mvB x=true):=by
       obtain ⟨y0,y1,y2,y3,y4,y5,y6,y7⟩:=HY.out;show _=_
       unfold mvB dwB;rw [y0,y1,y2,y3,y4,y5,y6,y7,HAP.out,hu];rfl
      go_wp2_with fail;go_ret;exact ⟨Ac HE.out.symm,hB⟩
     | false =>
      rw [hu] at k1;have HM:Hid (mvB x=dnB x):=by
       obtain ⟨y0,y1,y2,y3,y4,y5,y6,y7⟩:=HY.out;show _=_
       unfold mvB dwB;rw [y0,y1,y2,y3,y4,y5,y6,y7,HAP.out,hu];simp
      have HU:=iH hu;clear hu HAP;have k6:wr.cell? ⟨w.heap.size,6,none⟩=some (.slice a6 x.runs.length c6):=HK.out.cell rfl;go_wp2_with fail;clear k1 k7;go_loopw [4] (fun i wr=>∃ k:Nat,k≤x.runs.length∧i=.int .i64 k∧Hid (∀ (j:Nat) r,j<k→x.runs[j]?=some r→drB r=true)∧Hid (Blk w.heap.size (mmA x a5 c5 a6 c6 a7 c7 a8 c8) 32 wr)∧Below w.heap.size w wr) (fun i _=>x.runs.length - (intOf i).toNat)
      case atStart=>exact ⟨0,zL,rfl,fun j q h=>by omega,HK,hB⟩
      case round =>
       clear HK hB k6;obtain ⟨k,hk,rfl,hN,HK,hB⟩:=hrel;have hl6:=HI.out.l6;by_cases hlt:k<x.runs.length
       case neg =>
        have hke:k=x.runs.length:=by omega
        subst hke;have k3:wr.cell? ⟨w.heap.size,3,none⟩=some (.bool x.known):=HK.out.cell rfl;have k4:wr.cell? ⟨w.heap.size,4,none⟩=some (.int .i64 x.seen):=HK.out.cell rfl;have k6:wr.cell? ⟨w.heap.size,6,none⟩=some (.slice a6 x.runs.length c6):=HK.out.cell rfl;have k7:wr.cell? ⟨w.heap.size,7,none⟩=some (.slice a7 x.asks.length c7):=HK.out.cell rfl;have k8:wr.cell? ⟨w.heap.size,8,none⟩=some (.slice a8 x.gives.length c8):=HK.out.cell rfl;have HNA:=iH (Vt hN.out);have hl7:=HI.out.l7;have hl8:=HI.out.l8;clear hN hk
        cases g1:x.known with
        | true =>
         rw [g1] at k3;have HE:Hid (mvB x=false):=by show _=_;rw [HM.out];unfold dnB;rw [g1];simp
         go_wp2_with fail;go_ret;exact ⟨Ac HE.out.symm,hB⟩
        | false =>
         have HW0:Hid (x.wants.length=0):=by have h:=HY.out.2.2.2.2.1;rw [g1] at h;exact iH (of_decide_eq_true ((Bool.false_or _).symm.trans h))
         rw [g1] at k3
         cases g2:(x.seen == 0) with
         | false =>
          have HE:Hid (mvB x=false):=by show _=_;rw [HM.out];unfold dnB;rw [g2];simp
          go_wp2_with fail;go_ret;exact ⟨Ac HE.out.symm,hB⟩
         | true =>
          by_cases hz:x.asks.length+x.gives.length=0
          ·have HE:Hid (mvB x=true):=by show _=_;rw [HM.out];unfold dnB;rw [HNA.out,g1,g2,decide_eq_true (show x.wants.length+x.asks.length+x.gives.length=0 by have:=HW0.out;omega)];rfl
           have hz2:((x.asks.length:Int)+(x.gives.length:Int) == 0)=true:=by simp;omega
           clear hz;go_wp2_with fail;go_ret;exact ⟨Ac HE.out.symm,hB⟩
          ·have HE:Hid (mvB x=false):=by show _=_;rw [HM.out];unfold dnB;rw [decide_eq_false (show ¬ x.wants.length+x.asks.length+x.gives.length=0 by omega)];simp
           have hz2:((x.asks.length:Int)+(x.gives.length:Int) == 0)=false:=by simp;omega
           clear hz;go_wp2_with fail;go_ret;exact ⟨Ac HE.out.symm,hB⟩
       obtain ⟨r,hr⟩:=gXe hlt;obtain ⟨b,o,e6,_,hbl,hc⟩:=(HI.out.s6.below RnC.holds hB nL).at hr;subst e6;have HRA:=iH (Bc hc);have HXX:=iH hr;clear hc hr;have k6:wr.cell? ⟨w.heap.size,6,none⟩=some (.slice (some ⟨b,o,none⟩) x.runs.length c6):=HK.out.cell rfl;go_wp2_with (refine qLr Bi HRA ?_);refine (Av r _).mono ?_;rintro e w5 ⟨rfl,hb5⟩;have HK5:=qBk HK hb5;have hB5:=qTr hB hb5;have d2:w5.cell? ⟨b,o+k*11+2,none⟩=some (.string r.want.hold):=(hb5.cell (p:=⟨b,o+k*11+2,none⟩) hbl).trans (HRA 2 _ rfl);clear hb5 HK hB HRA k6;have k6:w5.cell? ⟨w.heap.size,6,none⟩=some (.slice (some ⟨b,o,none⟩) x.runs.length c6):=HK5.out.cell rfl
       cases g1:alB r.state with
       | true =>
        have HN2:Hid (∀ (j:Nat) y,j<k+1→x.runs[j]?=some y→drB y=true):=fun j y hj hy=>by
         by_cases e:j=k
         ·subst e
          have:=HXX.out.symm.trans hy;cases this
          unfold drB;rw [g1];rfl
         ·exact hN.out j y (by omega) hy
        clear g1;go_wp2_with fail;go_roundw
        case rel=>(repeat apply Exists.intro);exact ⟨⟨k+1,by omega,by go_num,HN2,HK5,hB5⟩,rfl⟩
        case measure=>simp [intOf];omega
       | false =>
        cases g2:(r.want.hold.toList == []) with
        | true =>
         have HE:Hid (mvB x=false):=HM.out.trans (Zp HXX (by unfold drB;rw [g1,g2];rfl));have g3:r.want.hold.toList.isEmpty=true:=by simpa using g2
         clear g1 g2;go_wp2_with fail;go_ret;exact ⟨Ac HE.out.symm,hB5⟩
        | false =>
         have g3:r.want.hold.toList.isEmpty=false:=by simpa using g2
         have HN2:Hid (∀ (j:Nat) y,j<k+1→x.runs[j]?=some y→drB y=true):=fun j y hj hy=>by
          by_cases e:j=k
          ·subst e
           have:=HXX.out.symm.trans hy;cases this
           unfold drB;rw [g1,g2];rfl
          ·exact hN.out j y (by omega) hy
         clear g1 g2;go_wp2_with fail;go_roundw
         case rel=>(repeat apply Exists.intro);exact ⟨⟨k+1,by omega,by go_num,HN2,HK5,hB5⟩,rfl⟩
         case measure=>simp [intOf];omega
end Go.Proofs.YtkiloaiffopllaaGreat
