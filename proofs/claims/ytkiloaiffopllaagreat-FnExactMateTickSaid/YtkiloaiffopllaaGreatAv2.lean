import Derived.Test.YtkiloaiffopllaaGreatJ14
set_option maxHeartbeats 8000000
namespace Go.Proofs.YtkiloaiffopllaaGreat
set_option maxRecDepth 100000
open Go.RowKit
theorem Eb (xs:List Aks) (a:OA) (cap lo:Nat) (c:Int) (w:World) (hin:SliceC AksC 4 lo w a xs) (hsm:xs.length≤1048576) :
  Calls Tryz.prog 54 #[.slice a xs.length cap,.int .i64 c] w (Rt (.bool (Ea xs c)) w):=by
 have HI:=iH hin;clear hin;by_cases hl:xs.length≤40
 case neg =>
  have hl':(40:Int)<xs.length:=by omega
  have HE:Hid (Ea xs c=false):=by show _=_;unfold Ea;rw [decide_eq_false hl];rfl
  clear hl;go_enter Tryz.func54,Tryz.ntmps54;go_wp2_with fail;go_ret;exact ⟨Ac HE.out.symm,by go_grown⟩
 have hl':(xs.length:Int)≤40:=by omega
 go_enter Tryz.func54,Tryz.ntmps54;go_wp2_with fail;go_loopw [5] (fun i wr=>∃ k:Nat,k≤xs.length∧i=.int .i64 k∧Hid (∀ (j:Nat) x,j<k→xs[j]?=some x→akB x c=true)∧Hid (Aw (xs.map (·.hold)) k=true)∧Below w.heap.size w wr) (fun i _=>xs.length - (intOf i).toNat)
 case atStart=>exact ⟨0,zL,rfl,fun j q h=>by omega,rfl,by go_grown⟩
 case round =>
  obtain ⟨k,hk,rfl,hN,hA,hB⟩:=hrel;by_cases hlt:k<xs.length
  case neg =>
   have hke:k=xs.length:=by omega
   subst hke;have HE:=iH (Qz hl hA.out hN.out);go_wp2_with fail;go_ret;exact ⟨Ac HE.out.symm,hB⟩
  ·obtain ⟨y,hy⟩:=gXe hlt
   have HIR:=qSl AksC.holds HI hB;obtain ⟨b,o,rfl,_,hbl,hc⟩:=HIR.out.at hy;have hz:=hc;obtain ⟨_,_,_,_,z0,z1⟩:=hz;have HRA:=iH (Dh hc);have Z0:=iH z0;have Z1:=iH z1;have HYY:=iH hy;clear hc z0 z1 hy;have hza:=Blk.alloc wr AaA 52;have HTS:Hid ((wr.alloc (Obj.cells AaA 52)).there wr.heap.size 0 4):=hza.there;obtain ⟨w4,HW4⟩:∃ w4,Hid (w4=(wr.alloc (Obj.cells AaA 52)).setCells wr.heap.size 0 (aaL y)):=⟨_,rfl⟩;have HK4:Hid (Blk wr.heap.size (aaA y) 52 w4):=by
    show Blk _ _ _ _
    rw [HW4.out];exact hza.setAll (aaA y) rfl
   have hbx:Below wr.heap.size wr w4:=by
    rw [HW4.out];exact Aa nL _ _ _ ((Below.refl _ wr).alloc nL _)
   have hB4:=qTr hB hbx;replace HIR:=qSl AksC.holds HI hB4;clear hza hbx hB;go_upto_region 7 with (first | (refine qLr Gd HRA ?_) | (refine Ab rfl 52 _ _ rfl wr.heap.size 0 (aaA y) rfl rfl HTS Bu (by simp [Value.oneCell']) w4 HW4 ?_));clear HRA HTS HW4;generalize wr.heap.size=g at *
   cases g0:hdB y.hold with
   | false =>
    have HE:=iH (Fk (c:=c) HYY (show akB y c=false by unfold akB;simp [g0]));have G0:=iH g0;clear g0;go_wp2_with fail;refine wp_region_held_drew (S:=fun wy=>Blk g (aaA y) 52 wy) (by kernel_rfl) HK4.out.drew (fun hS=>?_);have hB5:=hB4.trans ((Below.refl w.heap.size w4).drew);generalize w4.drew=w5 at *;refine tz 0 20 (.pointer (some ⟨g,0,none⟩)) rfl hS ?_;simp only [pX];refine tl 1 21 (.string y.hold) ⟨g,0,none⟩ rfl (fun wy hy=>hy.cell rfl) hS ?_;simp only [pX];refine rd1 2 ⟨some 22,_,_,_,_,none⟩ rfl (fun K hK=>?_);go_simp;refine (Dq y.hold _ Z0).mono ?_;rintro e v0 ⟨rfl,rfl⟩;refine hK.out _ _ hS (fun hS=>?_);clear hK K;rw [G0.out];refine tz 3 23 (.bool true) rfl hS ?_;simp only [pX];refine tz 4 24 (.bool true) rfl hS ?_;simp only [pX];refine ts 5 25 rfl hS ?_;simp only [pX];refine ts 6 26 rfl hS ?_;simp only [pX];refine ts 7 27 rfl hS ?_;simp only [pX];refine ts 8 28 rfl hS ?_;simp only [pX];refine tz 9 29 (.bool true) rfl hS ?_;simp only [pX];refine tz 10 30 (.bool true) rfl hS ?_;simp only [pX];refine ts 11 31 rfl hS ?_;simp only [pX];refine ts 12 32 rfl hS ?_;simp only [pX];refine ts 13 33 rfl hS ?_;simp only [pX];refine ts 14 34 rfl hS ?_;simp only [pX];refine ts 15 35 rfl hS ?_;simp only [pX];refine tz 16 36 (.bool true) rfl hS ?_;simp only [pX];refine tz 17 37 (.bool true) rfl hS ?_;simp only [pX];refine ts 18 38 rfl hS ?_;simp only [pX];refine ts 19 39 rfl hS ?_;simp only [pX];refine ts 20 40 rfl hS ?_;simp only [pX];refine ts 21 41 rfl hS ?_;simp only [pX];refine ts 22 42 rfl hS ?_;simp only [pX];refine ts 23 43 rfl hS ?_;simp only [pX];refine tz 24 44 (.bool true) rfl hS ?_;simp only [pX];refine tz 25 45 (.bool true) rfl hS ?_;simp only [pX];refine ts 26 46 rfl hS ?_;simp only [pX];refine ts 27 47 rfl hS ?_;simp only [pX];refine ts 28 48 rfl hS ?_;simp only [pX];refine ts 29 49 rfl hS ?_;simp only [pX];refine ts 30 50 rfl hS ?_;simp only [pX];refine ts 31 51 rfl hS ?_;simp only [pX];refine ts 32 52 rfl hS ?_;simp only [pX];refine ts 33 53 rfl hS ?_;simp only [pX];refine ts 34 54 rfl hS ?_;simp only [pX];refine ts 35 55 rfl hS ?_;simp only [pX];refine ts 36 56 rfl hS ?_;simp only [pX];refine ts 37 57 rfl hS ?_;simp only [pX];refine ts 38 58 rfl hS ?_;simp only [pX];refine tz 39 59 (.bool true) rfl hS ?_;simp only [pX];refine td ?_;clear hS;go_wp2_with fail;go_ret;exact ⟨Ac HE.out.symm,hB5⟩
   | true =>
    cases g1:nmB y.copy with
    | false =>
     have HE:=iH (Fk (c:=c) HYY (show akB y c=false by unfold akB;simp [g1]));have G0:=iH g0;have G1:=iH g1;clear g0 g1;go_wp2_with fail;refine wp_region_held_drew (S:=fun wy=>Blk g (aaA y) 52 wy) (by kernel_rfl) HK4.out.drew (fun hS=>?_);have hB5:=hB4.trans ((Below.refl w.heap.size w4).drew);generalize w4.drew=w5 at *;refine tz 0 20 (.pointer (some ⟨g,0,none⟩)) rfl hS ?_;simp only [pX];refine tl 1 21 (.string y.hold) ⟨g,0,none⟩ rfl (fun wy hy=>hy.cell rfl) hS ?_;simp only [pX];refine rd1 2 ⟨some 22,_,_,_,_,none⟩ rfl (fun K hK=>?_);go_simp;refine (Dq y.hold _ Z0).mono ?_;rintro e v0 ⟨rfl,rfl⟩;refine hK.out _ _ hS (fun hS=>?_);clear hK K;rw [G0.out];refine tz 3 23 (.bool false) rfl hS ?_;simp only [pX];refine tz 4 24 (.bool false) rfl hS ?_;simp only [pX];refine tz 5 25 (.pointer (some ⟨g,1,none⟩)) rfl hS ?_;simp only [pX];refine tl 6 26 (.string y.copy) ⟨g,1,none⟩ rfl (fun wy hy=>hy.cell rfl) hS ?_;simp only [pX];refine rd1 7 ⟨some 27,_,_,_,_,some (4,false)⟩ rfl (fun K hK=>?_);go_simp;refine (Cv y.copy _ Z1).mono ?_;rintro e v1 ⟨rfl,rfl⟩;refine hK.out _ _ hS (fun hS=>?_);clear hK K;rw [G1.out];refine tz 8 28 (.bool true) rfl hS ?_;simp only [pX];refine tz 9 29 (.bool true) rfl hS ?_;simp only [pX];refine tz 10 30 (.bool true) rfl hS ?_;simp only [pX];refine ts 11 31 rfl hS ?_;simp only [pX];refine ts 12 32 rfl hS ?_;simp only [pX];refine ts 13 33 rfl hS ?_;simp only [pX];refine ts 14 34 rfl hS ?_;simp only [pX];refine ts 15 35 rfl hS ?_;simp only [pX];refine tz 16 36 (.bool true) rfl hS ?_;simp only [pX];refine tz 17 37 (.bool true) rfl hS ?_;simp only [pX];refine ts 18 38 rfl hS ?_;simp only [pX];refine ts 19 39 rfl hS ?_;simp only [pX];refine ts 20 40 rfl hS ?_;simp only [pX];refine ts 21 41 rfl hS ?_;simp only [pX];refine ts 22 42 rfl hS ?_;simp only [pX];refine ts 23 43 rfl hS ?_;simp only [pX];refine tz 24 44 (.bool true) rfl hS ?_;simp only [pX];refine tz 25 45 (.bool true) rfl hS ?_;simp only [pX];refine ts 26 46 rfl hS ?_;simp only [pX];refine ts 27 47 rfl hS ?_;simp only [pX];refine ts 28 48 rfl hS ?_;simp only [pX];refine ts 29 49 rfl hS ?_;simp only [pX];refine ts 30 50 rfl hS ?_;simp only [pX];refine ts 31 51 rfl hS ?_;simp only [pX];refine ts 32 52 rfl hS ?_;simp only [pX];refine ts 33 53 rfl hS ?_;simp only [pX];refine ts 34 54 rfl hS ?_;simp only [pX];refine ts 35 55 rfl hS ?_;simp only [pX];refine ts 36 56 rfl hS ?_;simp only [pX];refine ts 37 57 rfl hS ?_;simp only [pX];refine ts 38 58 rfl hS ?_;simp only [pX];refine tz 39 59 (.bool true) rfl hS ?_;simp only [pX];refine td ?_;clear hS;go_wp2_with fail;go_ret;exact ⟨Ac HE.out.symm,hB5⟩
    | true =>
     cases g2:inR y.at_ 0 c with
     | false =>
      have HE:=iH (Fk (c:=c) HYY (show akB y c=false by unfold akB;simp [g2]));have G0:=iH g0;have G1:=iH g1;have G2:=iH g2;clear g0 g1 g2;go_wp2_with fail;refine wp_region_held_drew (S:=fun wy=>Blk g (aaA y) 52 wy) (by kernel_rfl) HK4.out.drew (fun hS=>?_);have hB5:=hB4.trans ((Below.refl w.heap.size w4).drew);generalize w4.drew=w5 at *;refine tz 0 20 (.pointer (some ⟨g,0,none⟩)) rfl hS ?_;simp only [pX];refine tl 1 21 (.string y.hold) ⟨g,0,none⟩ rfl (fun wy hy=>hy.cell rfl) hS ?_;simp only [pX];refine rd1 2 ⟨some 22,_,_,_,_,none⟩ rfl (fun K hK=>?_);go_simp;refine (Dq y.hold _ Z0).mono ?_;rintro e v0 ⟨rfl,rfl⟩;refine hK.out _ _ hS (fun hS=>?_);clear hK K;rw [G0.out];refine tz 3 23 (.bool false) rfl hS ?_;simp only [pX];refine tz 4 24 (.bool false) rfl hS ?_;simp only [pX];refine tz 5 25 (.pointer (some ⟨g,1,none⟩)) rfl hS ?_;simp only [pX];refine tl 6 26 (.string y.copy) ⟨g,1,none⟩ rfl (fun wy hy=>hy.cell rfl) hS ?_;simp only [pX];refine rd1 7 ⟨some 27,_,_,_,_,some (4,false)⟩ rfl (fun K hK=>?_);go_simp;refine (Cv y.copy _ Z1).mono ?_;rintro e v1 ⟨rfl,rfl⟩;refine hK.out _ _ hS (fun hS=>?_);clear hK K;rw [G1.out];refine tz 8 28 (.bool false) rfl hS ?_;simp only [pX];refine tz 9 29 (.bool false) rfl hS ?_;simp only [pX];refine tz 10 30 (.bool false) rfl hS ?_;simp only [pX];refine tz 11 31 (.pointer (some ⟨g,3,none⟩)) rfl hS ?_;simp only [pX];refine tl 12 32 (.int .i64 y.at_) ⟨g,3,none⟩ rfl (fun wy hy=>hy.cell rfl) hS ?_;simp only [pX];refine tz 13 33 (.int .i64 c) rfl hS ?_;simp only [pX];refine rd1 14 ⟨some 34,_,_,_,_,some (10,false)⟩ rfl (fun K hK=>?_);go_simp;refine (Bb y.at_ 0 c _).mono ?_;rintro e v2 ⟨rfl,rfl⟩;refine hK.out _ _ hS (fun hS=>?_);clear hK K;rw [G2.out];refine tz 15 35 (.bool true) rfl hS ?_;simp only [pX];refine tz 16 36 (.bool true) rfl hS ?_;simp only [pX];refine tz 17 37 (.bool true) rfl hS ?_;simp only [pX];refine ts 18 38 rfl hS ?_;simp only [pX];refine ts 19 39 rfl hS ?_;simp only [pX];refine ts 20 40 rfl hS ?_;simp only [pX];refine ts 21 41 rfl hS ?_;simp only [pX];refine ts 22 42 rfl hS ?_;simp only [pX];refine ts 23 43 rfl hS ?_;simp only [pX];refine tz 24 44 (.bool true) rfl hS ?_;simp only [pX];refine tz 25 45 (.bool true) rfl hS ?_;simp only [pX];refine ts 26 46 rfl hS ?_;simp only [pX];refine ts 27 47 rfl hS ?_;simp only [pX];refine ts 28 48 rfl hS ?_;simp only [pX];refine ts 29 49 rfl hS ?_;simp only [pX];refine ts 30 50 rfl hS ?_;simp only [pX];refine ts 31 51 rfl hS ?_;simp only [pX];refine ts 32 52 rfl hS ?_;simp only [pX];refine ts 33 53 rfl hS ?_;simp only [pX];refine ts 34 54 rfl hS ?_;simp only [pX];refine ts 35 55 rfl hS ?_;simp only [pX];refine ts 36 56 rfl hS ?_;simp only [pX];refine ts 37 57 rfl hS ?_;simp only [pX];refine ts 38 58 rfl hS ?_;simp only [pX];refine tz 39 59 (.bool true) rfl hS ?_;simp only [pX];refine td ?_;clear hS;go_wp2_with fail;go_ret;exact ⟨Ac HE.out.symm,hB5⟩
     | true =>
      cases g3:inR y.first 0 y.at_ with
      | false =>
       have HE:=iH (Fk (c:=c) HYY (show akB y c=false by unfold akB;simp [g3]));have G0:=iH g0;have G1:=iH g1;have G2:=iH g2;have G3:=iH g3;clear g0 g1 g2 g3;go_wp2_with fail;refine wp_region_held_drew (S:=fun wy=>Blk g (aaA y) 52 wy) (by kernel_rfl) HK4.out.drew (fun hS=>?_);have hB5:=hB4.trans ((Below.refl w.heap.size w4).drew);generalize w4.drew=w5 at *;refine tz 0 20 (.pointer (some ⟨g,0,none⟩)) rfl hS ?_;simp only [pX];refine tl 1 21 (.string y.hold) ⟨g,0,none⟩ rfl (fun wy hy=>hy.cell rfl) hS ?_;simp only [pX];refine rd1 2 ⟨some 22,_,_,_,_,none⟩ rfl (fun K hK=>?_);go_simp;refine (Dq y.hold _ Z0).mono ?_;rintro e v0 ⟨rfl,rfl⟩;refine hK.out _ _ hS (fun hS=>?_);clear hK K;rw [G0.out];refine tz 3 23 (.bool false) rfl hS ?_;simp only [pX];refine tz 4 24 (.bool false) rfl hS ?_;simp only [pX];refine tz 5 25 (.pointer (some ⟨g,1,none⟩)) rfl hS ?_;simp only [pX];refine tl 6 26 (.string y.copy) ⟨g,1,none⟩ rfl (fun wy hy=>hy.cell rfl) hS ?_;simp only [pX];refine rd1 7 ⟨some 27,_,_,_,_,some (4,false)⟩ rfl (fun K hK=>?_);go_simp;refine (Cv y.copy _ Z1).mono ?_;rintro e v1 ⟨rfl,rfl⟩;refine hK.out _ _ hS (fun hS=>?_);clear hK K;rw [G1.out];refine tz 8 28 (.bool false) rfl hS ?_;simp only [pX];refine tz 9 29 (.bool false) rfl hS ?_;simp only [pX];refine tz 10 30 (.bool false) rfl hS ?_;simp only [pX];refine tz 11 31 (.pointer (some ⟨g,3,none⟩)) rfl hS ?_;simp only [pX];refine tl 12 32 (.int .i64 y.at_) ⟨g,3,none⟩ rfl (fun wy hy=>hy.cell rfl) hS ?_;simp only [pX];refine tz 13 33 (.int .i64 c) rfl hS ?_;simp only [pX];refine rd1 14 ⟨some 34,_,_,_,_,some (10,false)⟩ rfl (fun K hK=>?_);go_simp;refine (Bb y.at_ 0 c _).mono ?_;rintro e v2 ⟨rfl,rfl⟩;refine hK.out _ _ hS (fun hS=>?_);clear hK K;rw [G2.out];refine tz 15 35 (.bool false) rfl hS ?_;simp only [pX];refine tz 16 36 (.bool false) rfl hS ?_;simp only [pX];refine tz 17 37 (.bool false) rfl hS ?_;simp only [pX];refine tz 18 38 (.pointer (some ⟨g,2,none⟩)) rfl hS ?_;simp only [pX];refine tl 19 39 (.int .i64 y.first) ⟨g,2,none⟩ rfl (fun wy hy=>hy.cell rfl) hS ?_;simp only [pX];refine tz 20 40 (.pointer (some ⟨g,3,none⟩)) rfl hS ?_;simp only [pX];refine tl 21 41 (.int .i64 y.at_) ⟨g,3,none⟩ rfl (fun wy hy=>hy.cell rfl) hS ?_;simp only [pX];refine rd1 22 ⟨some 42,_,_,_,_,some (17,false)⟩ rfl (fun K hK=>?_);go_simp;refine (Bb y.first 0 y.at_ _).mono ?_;rintro e v3 ⟨rfl,rfl⟩;refine hK.out _ _ hS (fun hS=>?_);clear hK K;rw [G3.out];refine tz 23 43 (.bool true) rfl hS ?_;simp only [pX];refine tz 24 44 (.bool true) rfl hS ?_;simp only [pX];refine tz 25 45 (.bool true) rfl hS ?_;simp only [pX];refine ts 26 46 rfl hS ?_;simp only [pX];refine ts 27 47 rfl hS ?_;simp only [pX];refine ts 28 48 rfl hS ?_;simp only [pX];refine ts 29 49 rfl hS ?_;simp only [pX];refine ts 30 50 rfl hS ?_;simp only [pX];refine ts 31 51 rfl hS ?_;simp only [pX];refine ts 32 52 rfl hS ?_;simp only [pX];refine ts 33 53 rfl hS ?_;simp only [pX];refine ts 34 54 rfl hS ?_
       simp only [pX];refine ts 35 55 rfl hS ?_;simp only [pX];refine ts 36 56 rfl hS ?_;simp only [pX];refine ts 37 57 rfl hS ?_;simp only [pX];refine ts 38 58 rfl hS ?_;simp only [pX];refine tz 39 59 (.bool true) rfl hS ?_;simp only [pX];refine td ?_;clear hS;go_wp2_with fail;go_ret;exact ⟨Ac HE.out.symm,hB5⟩
      | true =>
       have G0:=iH g0;have G1:=iH g1;have G2:=iH g2;have G3:=iH g3;have hro:akB y c=true:=by unfold akB;rw [g0,g1,g2,g3];rfl
       clear g0 g1 g2 g3;have HN2:Hid (∀ (j:Nat) z,j<k+1→xs[j]?=some z→akB z c=true):=fun j z hj hz=>by
        by_cases e:j=k
        ·subst e
         have:=HYY.out.symm.trans hz;cases this
         exact hro
        ·exact hN.out j z (by omega) hz
       clear hro
       cases k with
       | zero =>
        have HA2:Hid (Aw (xs.map (·.hold)) (0+1)=true):=rfl;go_wp2_with fail;refine wp_region_held_drew (S:=fun wy=>Blk g (aaA y) 52 wy) (by kernel_rfl) HK4.out.drew (fun hS=>?_);have hB5:=hB4.trans ((Below.refl w.heap.size w4).drew);generalize w4.drew=w5 at *;refine tz 0 20 (.pointer (some ⟨g,0,none⟩)) rfl hS ?_;simp only [pX];refine tl 1 21 (.string y.hold) ⟨g,0,none⟩ rfl (fun wy hy=>hy.cell rfl) hS ?_;simp only [pX];refine rd1 2 ⟨some 22,_,_,_,_,none⟩ rfl (fun K hK=>?_);go_simp;refine (Dq y.hold _ Z0).mono ?_;rintro e v0 ⟨rfl,rfl⟩;refine hK.out _ _ hS (fun hS=>?_);clear hK K;rw [G0.out];refine tz 3 23 (.bool false) rfl hS ?_;simp only [pX];refine tz 4 24 (.bool false) rfl hS ?_;simp only [pX];refine tz 5 25 (.pointer (some ⟨g,1,none⟩)) rfl hS ?_;simp only [pX];refine tl 6 26 (.string y.copy) ⟨g,1,none⟩ rfl (fun wy hy=>hy.cell rfl) hS ?_;simp only [pX];refine rd1 7 ⟨some 27,_,_,_,_,some (4,false)⟩ rfl (fun K hK=>?_);go_simp;refine (Cv y.copy _ Z1).mono ?_;rintro e v1 ⟨rfl,rfl⟩;refine hK.out _ _ hS (fun hS=>?_);clear hK K;rw [G1.out];refine tz 8 28 (.bool false) rfl hS ?_;simp only [pX];refine tz 9 29 (.bool false) rfl hS ?_;simp only [pX];refine tz 10 30 (.bool false) rfl hS ?_;simp only [pX];refine tz 11 31 (.pointer (some ⟨g,3,none⟩)) rfl hS ?_;simp only [pX];refine tl 12 32 (.int .i64 y.at_) ⟨g,3,none⟩ rfl (fun wy hy=>hy.cell rfl) hS ?_;simp only [pX];refine tz 13 33 (.int .i64 c) rfl hS ?_;simp only [pX];refine rd1 14 ⟨some 34,_,_,_,_,some (10,false)⟩ rfl (fun K hK=>?_);go_simp;refine (Bb y.at_ 0 c _).mono ?_;rintro e v2 ⟨rfl,rfl⟩;refine hK.out _ _ hS (fun hS=>?_);clear hK K;rw [G2.out];refine tz 15 35 (.bool false) rfl hS ?_;simp only [pX];refine tz 16 36 (.bool false) rfl hS ?_;simp only [pX];refine tz 17 37 (.bool false) rfl hS ?_;simp only [pX];refine tz 18 38 (.pointer (some ⟨g,2,none⟩)) rfl hS ?_;simp only [pX];refine tl 19 39 (.int .i64 y.first) ⟨g,2,none⟩ rfl (fun wy hy=>hy.cell rfl) hS ?_;simp only [pX];refine tz 20 40 (.pointer (some ⟨g,3,none⟩)) rfl hS ?_;simp only [pX];refine tl 21 41 (.int .i64 y.at_) ⟨g,3,none⟩ rfl (fun wy hy=>hy.cell rfl) hS ?_;simp only [pX];refine rd1 22 ⟨some 42,_,_,_,_,some (17,false)⟩ rfl (fun K hK=>?_);go_simp;refine (Bb y.first 0 y.at_ _).mono ?_;rintro e v3 ⟨rfl,rfl⟩;refine hK.out _ _ hS (fun hS=>?_);clear hK K;rw [G3.out];refine tz 23 43 (.bool false) rfl hS ?_;simp only [pX];refine tz 24 44 (.bool false) rfl hS ?_;simp only [pX];refine tz 25 45 (.bool false) rfl hS ?_;simp only [pX];refine tz 26 46 (.int .i64 ((0:Nat):Int)) rfl hS ?_;simp only [pX];refine tz 27 47 (.bool false) rfl hS ?_;simp only [pX];refine tz 28 48 (.bool false) rfl hS ?_;simp only [pX];refine ts 29 49 rfl hS ?_;simp only [pX];refine ts 30 50 rfl hS ?_;simp only [pX];refine ts 31 51 rfl hS ?_;simp only [pX];refine ts 32 52 rfl hS ?_;simp only [pX];refine ts 33 53 rfl hS ?_;simp only [pX];refine ts 34 54 rfl hS ?_;simp only [pX];refine ts 35 55 rfl hS ?_
        simp only [pX];refine ts 36 56 rfl hS ?_;simp only [pX];refine ts 37 57 rfl hS ?_;simp only [pX];refine tz 38 58 (.bool false) rfl hS ?_;simp only [pX];refine tz 39 59 (.bool false) rfl hS ?_;simp only [pX];refine td ?_;clear hS;go_wp2_with fail;go_roundw
        case rel=>exact ⟨0+1,by omega,by go_num,HN2,HA2,hB5⟩
        case measure=>simp [intOf];omega
       | succ m =>
        obtain ⟨x,hx⟩:∃ x,xs[m]?=some x:=⟨xs[m],gE (by omega)⟩;obtain ⟨b',o',e',_,_,hcx⟩:=HIR.out.at hx;cases e'
        have HRX:=iH (Dh hcx);have HQA:=iH (Eo (ns:=xs.map (·.hold)) (m:=m) (s:=x.hold) (t:=y.hold) (by rw [List.getElem?_map,hx];rfl) (by rw [List.getElem?_map,HYY.out];rfl));generalize hq:Op.bytesLess x.hold.toList y.hold.toList=Q at HQA;have HQ:=iH hq;clear hq hx hcx HIR;go_wp2_with fail;refine wp_region_held_drew (S:=fun wy=>Blk g (aaA y) 52 wy∧wy.rangeAt b (o+m*4) (aaL x)) (by kernel_rfl) ⟨HK4.out.drew,Cf HRX⟩ (fun hS=>?_);have hB5:=hB4.trans ((Below.refl w.heap.size w4).drew);generalize w4.drew=w5 at *;refine tz 0 20 (.pointer (some ⟨g,0,none⟩)) rfl hS ?_;simp only [pX];refine tl 1 21 (.string y.hold) ⟨g,0,none⟩ rfl (fun wy hy=>hy.1.cell rfl) hS ?_;simp only [pX];refine rd1 2 ⟨some 22,_,_,_,_,none⟩ rfl (fun K hK=>?_);go_simp;refine (Dq y.hold _ Z0).mono ?_;rintro e v0 ⟨rfl,rfl⟩;refine hK.out _ _ hS (fun hS=>?_);clear hK K;rw [G0.out];refine tz 3 23 (.bool false) rfl hS ?_;simp only [pX];refine tz 4 24 (.bool false) rfl hS ?_;simp only [pX];refine tz 5 25 (.pointer (some ⟨g,1,none⟩)) rfl hS ?_;simp only [pX];refine tl 6 26 (.string y.copy) ⟨g,1,none⟩ rfl (fun wy hy=>hy.1.cell rfl) hS ?_;simp only [pX];refine rd1 7 ⟨some 27,_,_,_,_,some (4,false)⟩ rfl (fun K hK=>?_);go_simp;refine (Cv y.copy _ Z1).mono ?_;rintro e v1 ⟨rfl,rfl⟩;refine hK.out _ _ hS (fun hS=>?_);clear hK K;rw [G1.out];refine tz 8 28 (.bool false) rfl hS ?_;simp only [pX];refine tz 9 29 (.bool false) rfl hS ?_;simp only [pX];refine tz 10 30 (.bool false) rfl hS ?_;simp only [pX];refine tz 11 31 (.pointer (some ⟨g,3,none⟩)) rfl hS ?_;simp only [pX];refine tl 12 32 (.int .i64 y.at_) ⟨g,3,none⟩ rfl (fun wy hy=>hy.1.cell rfl) hS ?_;simp only [pX];refine tz 13 33 (.int .i64 c) rfl hS ?_;simp only [pX];refine rd1 14 ⟨some 34,_,_,_,_,some (10,false)⟩ rfl (fun K hK=>?_);go_simp;refine (Bb y.at_ 0 c _).mono ?_;rintro e v2 ⟨rfl,rfl⟩;refine hK.out _ _ hS (fun hS=>?_);clear hK K;rw [G2.out];refine tz 15 35 (.bool false) rfl hS ?_;simp only [pX];refine tz 16 36 (.bool false) rfl hS ?_;simp only [pX];refine tz 17 37 (.bool false) rfl hS ?_;simp only [pX];refine tz 18 38 (.pointer (some ⟨g,2,none⟩)) rfl hS ?_;simp only [pX];refine tl 19 39 (.int .i64 y.first) ⟨g,2,none⟩ rfl (fun wy hy=>hy.1.cell rfl) hS ?_;simp only [pX];refine tz 20 40 (.pointer (some ⟨g,3,none⟩)) rfl hS ?_;simp only [pX];refine tl 21 41 (.int .i64 y.at_) ⟨g,3,none⟩ rfl (fun wy hy=>hy.1.cell rfl) hS ?_;simp only [pX];refine rd1 22 ⟨some 42,_,_,_,_,some (17,false)⟩ rfl (fun K hK=>?_);go_simp;refine (Bb y.first 0 y.at_ _).mono ?_;rintro e v3 ⟨rfl,rfl⟩;refine hK.out _ _ hS (fun hS=>?_);clear hK K;rw [G3.out];refine tz 23 43 (.bool false) rfl hS ?_;simp only [pX];refine tz 24 44 (.bool false) rfl hS ?_;simp only [pX];refine tz 25 45 (.bool false) rfl hS ?_;simp only [pX];refine tz 26 46 (.int .i64 ((m+1:Nat):Int)) rfl hS ?_;simp only [pX];refine tz 27 47 (.bool true) rfl hS ?_;simp only [pX];refine tz 28 48 (.bool true) rfl hS ?_
        simp only [pX];refine tz 29 49 (.slice (some ⟨b,o,none⟩) xs.length cap) rfl hS ?_;simp only [pX];refine tz 30 50 (.int .i64 ((m+1:Nat):Int)) rfl hS ?_;simp only [pX];refine ty 31 ⟨some 51,_,_,_,_,some (28,true)⟩ (.int .i64 (m:Int)) rfl (by rfl) ?_ hS ?_
        ·intro wy hy
         clear hy;go_simp;rw [IntKind.wrap_i64];omega
        simp only [pX];refine ty 32 ⟨some 52,_,_,_,_,some (28,true)⟩ (.pointer (some ⟨b,o+m*4,none⟩)) rfl (by rfl) ?_ hS ?_
        ·intro wy hy
         clear hy
         first | (go_simp;done) | (go_simp;intro hh;omega)
        simp only [pX];refine tz 33 53 (.pointer (some ⟨b,o+m*4,none⟩)) rfl hS ?_;simp only [pX];refine ty 34 ⟨some 54,_,_,_,_,some (28,true)⟩ (.string x.hold) rfl (by rfl) ?_ hS ?_
        ·intro wy hy
         have h0:=hy.2 0 _ rfl;simp only [Nat.add_zero] at h0;clear hy;go_simp
        simp only [pX];refine tz 35 55 (.pointer (some ⟨g,0,none⟩)) rfl hS ?_;simp only [pX];refine tl 36 56 (.string y.hold) ⟨g,0,none⟩ rfl (fun wy hy=>hy.1.cell rfl) hS ?_;simp only [pX];refine ty 37 ⟨some 57,_,_,_,_,some (28,true)⟩ (.bool (!Q)) rfl (by rfl) ?_ hS ?_
        ·intro wy hy
         clear hy;go_simp;rw [HQ.out]
        simp only [pX];refine tz 38 58 (.bool (!Q)) rfl hS ?_;simp only [pX];refine tz 39 59 (.bool (!Q)) rfl hS ?_;simp only [pX];refine td ?_;clear hS
        cases Q with
        | false =>
         have HE:=iH (Ye (c:=c) hlt HQA);go_wp2_with fail;go_ret;exact ⟨Ac HE.out.symm,hB5⟩
        | true =>
         have HA2:Hid (Aw (xs.map (·.hold)) (m+1+1)=true):=by show _=_;rw [Aw,hA.out,HQA.out];rfl
         go_wp2_with fail;go_roundw
         case rel=>exact ⟨m+1+1,by omega,by go_num,HN2,HA2,hB5⟩
         case measure=>simp [intOf];omega
theorem toList_inj {s t:BA} (h:s.toList=t.toList):s=t:=by
 rw [ByteArray.toList_eq,ByteArray.toList_eq] at h;obtain ⟨⟨a⟩⟩:=s;obtain ⟨⟨b⟩⟩:=t;simp at h;rw [h]
def akI (h:BA) (xs:List Aks):Option Nat:=xs.findIdx? (fun a=>decide (a.hold=h))
theorem cN {h:BA} {xs:List Aks} {k:Nat} {x:Aks} (hx:xs[k]?=some x) (e:x.hold=h) (hno:∀ (j:Nat) y,j<k→xs[j]?=some y→y.hold≠h):akI h xs=some k:=by
 unfold akI;rw [List.findIdx?_eq_some_iff_getElem];have hk:k<xs.length:=Ah hx;refine ⟨hk,?_,fun j hj=>?_⟩
 ·have:xs[k]=x:=by have:=gE hk;rw [hx] at this;exact (Option.some.inj this).symm
  simp [this,e]
 ·simp
  exact hno j _ hj (gE (by omega))
theorem bX {h:BA} {xs:List Aks} (hno:∀ (j:Nat) y,j<xs.length→xs[j]?=some y→y.hold≠h):akI h xs=none:=by
 unfold akI;rw [List.findIdx?_eq_none_iff];intro y hy;obtain ⟨j,hj,e⟩:=List.getElem_of_mem hy;simp;exact hno j y hj (by rw [gE hj,e])
def akN:Option Nat→Int
 | none=>-1
 | some k=>(k:Int)
theorem Fx (h:BA) (xs:List Aks) (a:OA) (cap lo:Nat) (w:World) (hin:SliceC AksC 4 lo w a xs) (hsm:xs.length≤1048576) :
  Calls Tryz.prog 55 #[.slice a xs.length cap,.string h] w (Rt (.int .i64 (akN (akI h xs))) w):=by
 have HI:=iH hin;clear hin;go_enter Tryz.func55,Tryz.ntmps55;go_wp2_with fail;go_loopw [5] (fun i wr=>∃ k:Nat,k≤xs.length∧i=.int .i64 k∧Hid (∀ (j:Nat) x,j<k→xs[j]?=some x→x.hold≠h)∧Below w.heap.size w wr) (fun i _=>xs.length - (intOf i).toNat)
 case atStart=>exact ⟨0,zL,rfl,fun j q h=>by omega,by go_grown⟩
 case round =>
  obtain ⟨k,hk,rfl,hN,hB⟩:=hrel;by_cases hlt:k<xs.length
  case neg =>
   have hke:k=xs.length:=by omega
   subst hke;have HE:=iH (bX hN.out);go_wp2_with fail;go_ret;rw [HE.out];exact ⟨rfl,hB⟩
  ·obtain ⟨y,hy⟩:=gXe hlt
   obtain ⟨b,o,rfl,_,hbl,hc⟩:=(HI.out.below AksC.holds hB nL).at hy;obtain ⟨q0,_,_,_,z0,z1⟩:=hc;simp only [Nat.add_zero] at q0;have HYY:=iH hy;clear z0 z1 hy
   cases hq:(y.hold.toList == h.toList) with
   | true =>
    have HE:=iH (cN HYY (toList_inj (eq_of_beq hq)) hN.out);go_wp2_with fail;go_ret;rw [HE.out];exact ⟨rfl,hB⟩
   | false =>
    have HN2:Hid (∀ (j:Nat) z,j<k+1→xs[j]?=some z→z.hold≠h):=fun j z hj hz=>by
     by_cases e:j=k
     ·subst e
      have:=HYY.out.symm.trans hz;cases this
      intro e2;rw [e2] at hq;simp at hq
     ·exact hN.out j z (by omega) hz
    go_wp2_with fail;go_roundw
    case rel=>exact ⟨k+1,by omega,by go_num,HN2,hB⟩
    case measure=>simp [intOf];omega
end Go.Proofs.YtkiloaiffopllaaGreat
