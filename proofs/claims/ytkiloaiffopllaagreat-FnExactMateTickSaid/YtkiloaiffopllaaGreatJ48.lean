import Derived.Test.YtkiloaiffopllaaGreatJ47
set_option maxHeartbeats 8000000
namespace Go.Proofs.YtkiloaiffopllaaGreat
set_option maxRecDepth 100000
open Go.RowKit
def Uw (k t:Nat):Value:=if t % 7=0∨t % 7=2 then .string (Bj (k+t)) else .int .i64 ((k+t:Nat):Int)
def MkdCWnt (w:World) (b o n k:Nat):Prop:=∀ t,t<n→w.cell? ⟨b,o+t,none⟩=some (Uw k t)
theorem MkdCWnt.below {w w':World} {b o n k:Nat} (h:MkdCWnt w b o n k) (hb:Below w.heap.size w w'):MkdCWnt w' b o n k :=
 fun t ht=>(hb.cell (p:=⟨b,o+t,none⟩) (block_lt_of_cell (h t ht))).trans (h t ht)
theorem MkdCWnt.set {w:World} {b o n k p:Nat} {u v:Value} (h:MkdCWnt w b o n k) (hp:p=o+n) (c:w.cell? ⟨b,p,none⟩=some u) (hv:v=Uw k n):MkdCWnt (w.setCell ⟨b,p,none⟩ v) b o (n+1) k:=by
 subst hp hv;intro t ht;by_cases e:t=n
 ·subst e
  exact World.cell?_setCell_same _ _ _ c
 ·rw [World.cell?_setCell_other _ _ _ _ (fun h=>by injection h with _ h _;omega)]
  exact h t (by omega)
theorem Ln {k t:Nat} (h:t % 7=0∨t % 7=2):Uw k t=.string (Bj (k+t)):=if_pos h
theorem Ej {k t:Nat} (h:¬ (t % 7=0∨t % 7=2)):Uw k t=.int .i64 ((k+t:Nat):Int):=if_neg h
def MkdRWnt (w:World) (a:OA) (n k:Nat):Prop:=n=0∨∃ b o,a=some ⟨b,o,none⟩∧MkdCWnt w b o (n*7) k
theorem MkdRWnt.below {w w':World} {a:OA} {n k:Nat} (h:MkdRWnt w a n k) (hb:Below w.heap.size w w'):MkdRWnt w' a n k:=by
 rcases h with h | ⟨b,o,e,h⟩
 ·exact .inl h
 ·exact .inr ⟨b,o,e,h.below hb⟩
theorem Jq (xs:List Wnt) (a:OA) (cap lo:Nat) (k:Nat) (wx ws w:World) (hin:SliceC WntC 7 lo wx a xs) (hlo:0<lo) (hm:Mkd lo wx ws w) (h0:0<k) (h1:k+xs.length*7≤1073741824) :
  Calls Tryz.prog 41 #[.slice a xs.length cap,.int .i64 k] w fun e w'=>e=.returned (.int .i64 ((k+xs.length*7:Nat):Int))∧MkdRWnt w' a xs.length k∧Mkd lo wx ws w':=by
 have HI:=iH hin;have HM:=iH hm;clear hin hm;go_enter Tryz.func41,Tryz.ntmps41;go_wp2_with fail;go_loopw [1,5] (fun v i wr=>∃ j:Nat,j≤xs.length∧i=.int .i64 j∧v=.int .i64 ((k+j*7:Nat):Int)∧Hid (MkdRWnt wr a j k)∧Hid (Mkd lo wx ws wr)) (fun _ i _=>xs.length - (intOf i).toNat)
 case atStart=>exact ⟨0,zL,rfl,by simp,.inl rfl,HM⟩
 case round =>
  clear HM;obtain ⟨j,hj,rfl,rfl,hV,hM⟩:=hrel;by_cases hlt:j<xs.length
  ·obtain ⟨x,hx⟩:=gXe hlt
   obtain ⟨b,o,rfl,hb0,hbl,hc⟩:=HI.out.at hx;obtain ⟨q0,q1,q2,q3,q4,q5,q6,_,_⟩:=hc;simp only [Nat.add_zero] at q0;have hne:xs≠[]:=fun e=>by rw [e] at hlt;exact absurd hlt (Nat.not_lt_zero _)
   have HFZ:Hid (∀ p,wx.frozen? ⟨b,p,none⟩=false):=HI.out.frz hne hlo;have i0:(0:Int)≤(j:Int):=by omega
   have i1:(j:Int)<(xs.length:Int):=by omega
   have C0:Hid (MkdCWnt wr b o (j*7) k):=by
    rcases hV.out with h | ⟨b',o',e,h⟩
    ·intro t ht;omega
    ·cases e;exact h
   have hkb:k+j*7+7≤1073741824:=by omega
   have Q0:=iH q0;have Q1:=iH q1;have Q2:=iH q2;have Q3:=iH q3;have Q4:=iH q4;have Q5:=iH q5;have Q6:=iH q6;clear hx hne hV q0 q1 q2 q3 q4 q5 q6;obtain ⟨y0,hy0⟩:∃ y:Nat,y=k+j*7:=⟨_,rfl⟩;have HY0:=iH hy0;have hs0:((k+j*7:Nat):Int)=(y0:Int):=by rw [hy0]
   rw [hs0];clear hs0;have hyl:y0+7≤1073741824:=by omega
   have hyp:0<y0:=by omega
   clear hy0;go_wp2_with fail;refine (Ax y0 _ (by omega) (by omega)).mono ?_;rintro e wa0 ⟨rfl,hb0⟩;have Ma0:=iH (hM.out.below hb0);have Ca0:=iH (C0.out.below hb0);clear hb0 hM C0;obtain ⟨u0,d0⟩:=Ma0.out.so b (o+j*7) _ Q0;have g0:=(Ma0.out.fz b (o+j*7) hbl).trans (HFZ (o+j*7));have Mb0:=iH (Ma0.out.set hb0 Q0 rfl (.string (Bj y0)));have Cb0:Hid (MkdCWnt (wa0.setCell ⟨b,o+j*7,none⟩ (.string (Bj y0))) b o (j*7+1) k):=Ca0.out.set (n:=j*7) (by omega) d0 (by rw [Ln (by omega),HY0.out]);go_upto_region 5 with fail;clear d0 g0 Ma0 Ca0;generalize wa0.setCell ⟨b,o+j*7,none⟩ (.string (Bj y0))=wb0 at *;go_upto_region 6 with fail;obtain ⟨y1,hy1⟩:∃ y:Nat,y=y0+1:=⟨_,rfl⟩;have hs1:((y0:Int)+1)=(y1:Int):=by omega
   rw [hs1];have HY1:Hid (y1=k+j*7+1):=by have:=HY0.out;show _=_;omega
   have hyl1:y1+6≤1073741824:=by omega
   have hyp1:0<y1:=by omega
   clear hs1 hy1;obtain ⟨u1,d1⟩:=Mb0.out.so b (o+j*7+1) _ Q1;have g1:=(Mb0.out.fz b (o+j*7+1) hbl).trans (HFZ (o+j*7+1));have Mb1:=iH (Mb0.out.set hb0 Q1 rfl (.int .i64 (y1:Int)));have Cb1:Hid (MkdCWnt (wb0.setCell ⟨b,o+j*7+1,none⟩ (.int .i64 (y1:Int))) b o (j*7+1+1) k):=Cb0.out.set (n:=j*7+1) (by omega) d1 (by rw [Ej (by omega),HY1.out,Nat.add_assoc]);go_upto_region 7 with fail;clear d1 g1 Mb0 Cb0;generalize wb0.setCell ⟨b,o+j*7+1,none⟩ (.int .i64 (y1:Int))=wb1 at *;go_upto_region 8 with fail;obtain ⟨y2,hy2⟩:∃ y:Nat,y=y1+1:=⟨_,rfl⟩;have hs2:((y1:Int)+1)=(y2:Int):=by omega
   rw [hs2];have HY2:Hid (y2=k+j*7+2):=by have:=HY1.out;show _=_;omega
   have hyl2:y2+5≤1073741824:=by omega
   have hyp2:0<y2:=by omega
   clear hs2 hy2;go_wp2_with fail;refine (Ax y2 _ (by omega) (by omega)).mono ?_;rintro e wa2 ⟨rfl,hb2⟩;have Ma2:=iH (Mb1.out.below hb2);have Ca2:=iH (Cb1.out.below hb2);clear hb2 Mb1 Cb1;obtain ⟨u2,d2⟩:=Ma2.out.so b (o+j*7+2) _ Q2;have g2:=(Ma2.out.fz b (o+j*7+2) hbl).trans (HFZ (o+j*7+2));have Mb2:=iH (Ma2.out.set hb0 Q2 rfl (.string (Bj y2)));have Cb2:Hid (MkdCWnt (wa2.setCell ⟨b,o+j*7+2,none⟩ (.string (Bj y2))) b o (j*7+2+1) k):=Ca2.out.set (n:=j*7+2) (by omega) d2 (by rw [Ln (by omega),HY2.out,Nat.add_assoc]);go_upto_region 9 with fail;clear d2 g2 Ma2 Ca2;generalize wa2.setCell ⟨b,o+j*7+2,none⟩ (.string (Bj y2))=wb2 at *;go_upto_region 10 with fail;obtain ⟨y3,hy3⟩:∃ y:Nat,y=y2+1:=⟨_,rfl⟩;have hs3:((y2:Int)+1)=(y3:Int):=by omega
   rw [hs3];have HY3:Hid (y3=k+j*7+3):=by have:=HY2.out;show _=_;omega
   have hyl3:y3+4≤1073741824:=by omega
   have hyp3:0<y3:=by omega
   clear hs3 hy3;obtain ⟨u3,d3⟩:=Mb2.out.so b (o+j*7+3) _ Q3;have g3:=(Mb2.out.fz b (o+j*7+3) hbl).trans (HFZ (o+j*7+3));have Mb3:=iH (Mb2.out.set hb0 Q3 rfl (.int .i64 (y3:Int)));have Cb3:Hid (MkdCWnt (wb2.setCell ⟨b,o+j*7+3,none⟩ (.int .i64 (y3:Int))) b o (j*7+3+1) k):=Cb2.out.set (n:=j*7+3) (by omega) d3 (by rw [Ej (by omega),HY3.out,Nat.add_assoc]);go_upto_region 11 with fail;clear d3 g3 Mb2 Cb2;generalize wb2.setCell ⟨b,o+j*7+3,none⟩ (.int .i64 (y3:Int))=wb3 at *;go_upto_region 12 with fail;obtain ⟨y4,hy4⟩:∃ y:Nat,y=y3+1:=⟨_,rfl⟩;have hs4:((y3:Int)+1)=(y4:Int):=by omega
   rw [hs4];have HY4:Hid (y4=k+j*7+4):=by have:=HY3.out;show _=_;omega
   have hyl4:y4+3≤1073741824:=by omega
   have hyp4:0<y4:=by omega
   clear hs4 hy4;obtain ⟨u4,d4⟩:=Mb3.out.so b (o+j*7+4) _ Q4;have g4:=(Mb3.out.fz b (o+j*7+4) hbl).trans (HFZ (o+j*7+4));have Mb4:=iH (Mb3.out.set hb0 Q4 rfl (.int .i64 (y4:Int)));have Cb4:Hid (MkdCWnt (wb3.setCell ⟨b,o+j*7+4,none⟩ (.int .i64 (y4:Int))) b o (j*7+4+1) k):=Cb3.out.set (n:=j*7+4) (by omega) d4 (by rw [Ej (by omega),HY4.out,Nat.add_assoc]);go_upto_region 13 with fail;clear d4 g4 Mb3 Cb3;generalize wb3.setCell ⟨b,o+j*7+4,none⟩ (.int .i64 (y4:Int))=wb4 at *;go_upto_region 14 with fail;obtain ⟨y5,hy5⟩:∃ y:Nat,y=y4+1:=⟨_,rfl⟩;have hs5:((y4:Int)+1)=(y5:Int):=by omega
   rw [hs5];have HY5:Hid (y5=k+j*7+5):=by have:=HY4.out;show _=_;omega
   have hyl5:y5+2≤1073741824:=by omega
   have hyp5:0<y5:=by omega
   clear hs5 hy5;obtain ⟨u5,d5⟩:=Mb4.out.so b (o+j*7+5) _ Q5;have g5:=(Mb4.out.fz b (o+j*7+5) hbl).trans (HFZ (o+j*7+5));have Mb5:=iH (Mb4.out.set hb0 Q5 rfl (.int .i64 (y5:Int)));have Cb5:Hid (MkdCWnt (wb4.setCell ⟨b,o+j*7+5,none⟩ (.int .i64 (y5:Int))) b o (j*7+5+1) k):=Cb4.out.set (n:=j*7+5) (by omega) d5 (by rw [Ej (by omega),HY5.out,Nat.add_assoc]);go_upto_region 15 with fail;clear d5 g5 Mb4 Cb4;generalize wb4.setCell ⟨b,o+j*7+5,none⟩ (.int .i64 (y5:Int))=wb5 at *;go_upto_region 16 with fail;obtain ⟨y6,hy6⟩:∃ y:Nat,y=y5+1:=⟨_,rfl⟩;have hs6:((y5:Int)+1)=(y6:Int):=by omega
   rw [hs6];have HY6:Hid (y6=k+j*7+6):=by have:=HY5.out;show _=_;omega
   have hyl6:y6+1≤1073741824:=by omega
   have hyp6:0<y6:=by omega
   clear hs6 hy6;obtain ⟨u6,d6⟩:=Mb5.out.so b (o+j*7+6) _ Q6;have g6:=(Mb5.out.fz b (o+j*7+6) hbl).trans (HFZ (o+j*7+6));have Mb6:=iH (Mb5.out.set hb0 Q6 rfl (.int .i64 (y6:Int)));have Cb6:Hid (MkdCWnt (wb5.setCell ⟨b,o+j*7+6,none⟩ (.int .i64 (y6:Int))) b o (j*7+6+1) k):=Cb5.out.set (n:=j*7+6) (by omega) d6 (by rw [Ej (by omega),HY6.out,Nat.add_assoc]);go_upto_region 17 with fail;clear d6 g6 Mb5 Cb5;generalize wb5.setCell ⟨b,o+j*7+6,none⟩ (.int .i64 (y6:Int))=wb6 at *
   have HR:Hid (MkdRWnt wb6 (some ⟨b,o,none⟩) (j+1) k):=.inr ⟨b,o,rfl,by
    have h:=Cb6.out;rw [show j*7+6+1=(j+1)*7 by omega] at h
    exact h⟩
   have hend:((y6:Int)+1)=((k+(j+1)*7:Nat):Int):=by have:=HY6.out;omega
   go_wp2_with fail;go_roundw
   case rel=>exact ⟨j+1,by omega,by go_num,by first | rw [hend] | go_num,HR,Mb6⟩
   case measure=>simp [intOf];omega
  ·have hje:j=xs.length:=by omega
   subst hje;go_wp2_with fail;go_ret;exact ⟨rfl,hV.out,hM.out⟩
theorem Pr (a:OA) (n cap k:Nat) (w:World) (hin:MkdRWnt w a n k) (h0:0<k) (h1:k+n*7≤1073741824) :
  Calls Tryz.prog 45 #[.slice a n cap,.int .i64 k] w (Rt (.int .i64 ((k+n*7:Nat):Int)) w):=by
 have HI:=iH hin;clear hin;go_enter Tryz.func45,Tryz.ntmps45;go_wp2_with fail;go_loopw [1,5] (fun v i wr=>∃ j:Nat,j≤n∧i=.int .i64 j∧v=.int .i64 ((k+j*7:Nat):Int)∧Hid (Below w.heap.size w wr)) (fun _ i _=>n - (intOf i).toNat)
 case atStart=>exact ⟨0,zL,rfl,by simp,Below.refl _ _⟩
 case round =>
  obtain ⟨j,hj,rfl,rfl,hB⟩:=hrel;by_cases hlt:j<n
  ·have hM:=HI.out.below hB.out
   obtain ⟨b,o,rfl,hc⟩:∃ b o,a=some ⟨b,o,none⟩∧MkdCWnt wr b o (n*7) k:=by
    rcases hM with h | h
    ·omega
    ·exact h
   have HC:=iH hc;have i0:(0:Int)≤(j:Int):=by omega
   have i1:(j:Int)<(n:Int):=by omega
   have hkb:k+j*7+7≤1073741824:=by omega
   have hbl:b<wr.heap.size:=block_lt_of_cell (hc (j*7) (by omega));clear hc hM;obtain ⟨y0,hy0⟩:∃ y:Nat,y=k+j*7:=⟨_,rfl⟩;have HY0:=iH hy0;have hs0:((k+j*7:Nat):Int)=(y0:Int):=by rw [hy0]
   rw [hs0];have hyl0:y0+7≤1073741824:=by omega
   have hyp0:0<y0:=by omega
   clear hy0 hs0;have c0:wr.cell? ⟨b,o+j*7,none⟩=some (.string (Bj y0)):=by
    have h:=HC.out (j*7) (by omega);rw [Ln (by omega)] at h;have e:=HY0.out;rw [e,show o+j*7=o+(j*7) by omega];exact h
   have HCC:=iH c0;go_upto_region 4 with fail;refine wp_region_held_drew (S:=fun wy=>wy.cell? ⟨b,o+j*7,none⟩=some (.string (Bj y0))) (by kernel_rfl) (by simpa using c0) (fun hS=>?_);refine tz 0 12 (.slice (some ⟨b,o,none⟩) n cap) rfl hS ?_;simp only [pX];refine tz 1 13 (.int .i64 (j:Int)) rfl hS ?_;simp only [pX];refine ty 2 ⟨some 14,_,_,_,_,none⟩ (.pointer (some ⟨b,o+j*7,none⟩)) rfl (by rfl) ?_ hS ?_
   ·intro wy hy
    clear hy
    first | (go_simp;done) | (go_simp;intro hh;omega)
   simp only [pX];refine tz 3 15 (.pointer (some ⟨b,o+j*7,none⟩)) rfl hS ?_;simp only [pX];refine ty 4 ⟨some 16,_,_,_,_,none⟩ (.string (Bj y0)) rfl (by rfl) ?_ hS ?_
   ·intro wy hy
    have h0:=hy;clear hy;go_simp
   simp only [pX];refine tz 5 17 (.int .i64 (y0:Int)) rfl hS ?_;simp only [pX];refine rd1 6 ⟨some 18,_,_,_,_,none⟩ rfl (fun K hK=>?_);go_simp;refine (Ax y0 _ (by omega) (by omega)).mono ?_;rintro e wm0 ⟨rfl,hb1⟩;have hd:Below wr.heap.size wr wm0:=(Below.refl _ wr).drew.trans hb1;have HBm0:=qTH hB hd;have HCm0:=iH (HC.out.below hd);refine hK.out _ _ ((hd.cell (p:=⟨b,o+j*7,none⟩) (block_lt_of_cell c0)).trans HCC) (fun hS=>?_);clear hK K;clear hb1 hd HCC c0 hB HC;refine tz 7 19 (.bool false) rfl hS ?_;simp only [pX];refine td ?_;clear hS;go_upto_region 7 with fail;obtain ⟨y1,hy1⟩:∃ y:Nat,y=y0+1:=⟨_,rfl⟩;have hs1:((y0:Int)+1)=(y1:Int):=by omega
   rw [hs1];have HY1:Hid (y1=k+j*7+1):=by have:=HY0.out;show _=_;omega
   have hyl1:y1+6≤1073741824:=by omega
   have hyp1:0<y1:=by omega
   clear hs1 hy1;have c1:wm0.cell? ⟨b,o+j*7+1,none⟩=some (.int .i64 (y1:Int)):=by
    have h:=HCm0.out (j*7+1) (by omega);rw [Ej (by omega)] at h;have e:=HY1.out;rw [e,Nat.add_assoc k,show o+j*7+1=o+(j*7+1) by omega];exact h
   go_upto_region 10 with fail;clear c1;obtain ⟨y2,hy2⟩:∃ y:Nat,y=y1+1:=⟨_,rfl⟩;have hs2:((y1:Int)+1)=(y2:Int):=by omega
   rw [hs2];have HY2:Hid (y2=k+j*7+2):=by have:=HY1.out;show _=_;omega
   have hyl2:y2+5≤1073741824:=by omega
   have hyp2:0<y2:=by omega
   clear hs2 hy2;have c2:wm0.cell? ⟨b,o+j*7+2,none⟩=some (.string (Bj y2)):=by
    have h:=HCm0.out (j*7+2) (by omega);rw [Ln (by omega)] at h;have e:=HY2.out;rw [e,Nat.add_assoc k,show o+j*7+2=o+(j*7+2) by omega];exact h
   have HCC:=iH c2;go_upto_region 10 with fail;refine wp_region_held_drew (S:=fun wy=>wy.cell? ⟨b,o+j*7+2,none⟩=some (.string (Bj y2))) (by kernel_rfl) (by simpa using c2) (fun hS=>?_);refine tz 0 31 (.slice (some ⟨b,o,none⟩) n cap) rfl hS ?_;simp only [pX];refine tz 1 32 (.int .i64 (j:Int)) rfl hS ?_;simp only [pX];refine ty 2 ⟨some 33,_,_,_,_,none⟩ (.pointer (some ⟨b,o+j*7,none⟩)) rfl (by rfl) ?_ hS ?_
   ·intro wy hy
    clear hy
    first | (go_simp;done) | (go_simp;intro hh;omega)
   simp only [pX];refine tz 3 34 (.pointer (some ⟨b,o+j*7+2,none⟩)) rfl hS ?_;simp only [pX];refine ty 4 ⟨some 35,_,_,_,_,none⟩ (.string (Bj y2)) rfl (by rfl) ?_ hS ?_
   ·intro wy hy
    have h0:=hy;clear hy;go_simp
   simp only [pX];refine tz 5 36 (.int .i64 (y2:Int)) rfl hS ?_;simp only [pX];refine rd1 6 ⟨some 37,_,_,_,_,none⟩ rfl (fun K hK=>?_);go_simp;refine (Ax y2 _ (by omega) (by omega)).mono ?_;rintro e wm2 ⟨rfl,hb1⟩;have hd:Below wm0.heap.size wm0 wm2:=(Below.refl _ wm0).drew.trans hb1;have HBm2:=qTH HBm0 hd;have HCm2:=iH (HCm0.out.below hd);refine hK.out _ _ ((hd.cell (p:=⟨b,o+j*7+2,none⟩) (block_lt_of_cell c2)).trans HCC) (fun hS=>?_);clear hK K;clear hb1 hd HCC c2 HBm0 HCm0;refine tz 7 38 (.bool false) rfl hS ?_;simp only [pX];refine td ?_;clear hS;go_upto_region 13 with fail;obtain ⟨y3,hy3⟩:∃ y:Nat,y=y2+1:=⟨_,rfl⟩;have hs3:((y2:Int)+1)=(y3:Int):=by omega
   rw [hs3];have HY3:Hid (y3=k+j*7+3):=by have:=HY2.out;show _=_;omega
   have hyl3:y3+4≤1073741824:=by omega
   have hyp3:0<y3:=by omega
   clear hs3 hy3;have c3:wm2.cell? ⟨b,o+j*7+3,none⟩=some (.int .i64 (y3:Int)):=by
    have h:=HCm2.out (j*7+3) (by omega);rw [Ej (by omega)] at h;have e:=HY3.out;rw [e,Nat.add_assoc k,show o+j*7+3=o+(j*7+3) by omega];exact h
   go_upto_region 16 with fail;clear c3;obtain ⟨y4,hy4⟩:∃ y:Nat,y=y3+1:=⟨_,rfl⟩;have hs4:((y3:Int)+1)=(y4:Int):=by omega
   rw [hs4];have HY4:Hid (y4=k+j*7+4):=by have:=HY3.out;show _=_;omega
   have hyl4:y4+3≤1073741824:=by omega
   have hyp4:0<y4:=by omega
   clear hs4 hy4;have c4:wm2.cell? ⟨b,o+j*7+4,none⟩=some (.int .i64 (y4:Int)):=by
    have h:=HCm2.out (j*7+4) (by omega);rw [Ej (by omega)] at h;have e:=HY4.out;rw [e,Nat.add_assoc k,show o+j*7+4=o+(j*7+4) by omega];exact h
   go_upto_region 19 with fail;clear c4;obtain ⟨y5,hy5⟩:∃ y:Nat,y=y4+1:=⟨_,rfl⟩;have hs5:((y4:Int)+1)=(y5:Int):=by omega
   rw [hs5];have HY5:Hid (y5=k+j*7+5):=by have:=HY4.out;show _=_;omega
   have hyl5:y5+2≤1073741824:=by omega
   have hyp5:0<y5:=by omega
   clear hs5 hy5;have c5:wm2.cell? ⟨b,o+j*7+5,none⟩=some (.int .i64 (y5:Int)):=by
    have h:=HCm2.out (j*7+5) (by omega);rw [Ej (by omega)] at h;have e:=HY5.out;rw [e,Nat.add_assoc k,show o+j*7+5=o+(j*7+5) by omega];exact h
   go_upto_region 22 with fail;clear c5;obtain ⟨y6,hy6⟩:∃ y:Nat,y=y5+1:=⟨_,rfl⟩;have hs6:((y5:Int)+1)=(y6:Int):=by omega
   rw [hs6];have HY6:Hid (y6=k+j*7+6):=by have:=HY5.out;show _=_;omega
   have hyl6:y6+1≤1073741824:=by omega
   have hyp6:0<y6:=by omega
   clear hs6 hy6;have c6:wm2.cell? ⟨b,o+j*7+6,none⟩=some (.int .i64 (y6:Int)):=by
    have h:=HCm2.out (j*7+6) (by omega);rw [Ej (by omega)] at h;have e:=HY6.out;rw [e,Nat.add_assoc k,show o+j*7+6=o+(j*7+6) by omega];exact h
   have hend:((y6:Int)+1)=((k+(j+1)*7:Nat):Int):=by have:=HY6.out;omega
   go_wp2_with fail;go_roundw
   case rel=>exact ⟨j+1,by omega,by go_num,by first | rw [hend] | go_num,HBm2⟩
   case measure=>simp [intOf];omega
  ·have hje:j=n:=by omega
   subst hje;go_wp2_with fail;go_ret;exact ⟨rfl,hB.out⟩
def Uz (k t:Nat):Value:=if t % 4=0∨t % 4=1 then .string (Bj (k+t)) else .int .i64 ((k+t:Nat):Int)
def MkdCAks (w:World) (b o n k:Nat):Prop:=∀ t,t<n→w.cell? ⟨b,o+t,none⟩=some (Uz k t)
theorem MkdCAks.below {w w':World} {b o n k:Nat} (h:MkdCAks w b o n k) (hb:Below w.heap.size w w'):MkdCAks w' b o n k :=
 fun t ht=>(hb.cell (p:=⟨b,o+t,none⟩) (block_lt_of_cell (h t ht))).trans (h t ht)
theorem MkdCAks.set {w:World} {b o n k p:Nat} {u v:Value} (h:MkdCAks w b o n k) (hp:p=o+n) (c:w.cell? ⟨b,p,none⟩=some u) (hv:v=Uz k n):MkdCAks (w.setCell ⟨b,p,none⟩ v) b o (n+1) k:=by
 subst hp hv;intro t ht;by_cases e:t=n
 ·subst e
  exact World.cell?_setCell_same _ _ _ c
 ·rw [World.cell?_setCell_other _ _ _ _ (fun h=>by injection h with _ h _;omega)]
  exact h t (by omega)
theorem Lq {k t:Nat} (h:t % 4=0∨t % 4=1):Uz k t=.string (Bj (k+t)):=if_pos h
theorem Lo {k t:Nat} (h:¬ (t % 4=0∨t % 4=1)):Uz k t=.int .i64 ((k+t:Nat):Int):=if_neg h
def MkdRAks (w:World) (a:OA) (n k:Nat):Prop:=n=0∨∃ b o,a=some ⟨b,o,none⟩∧MkdCAks w b o (n*4) k
theorem MkdRAks.below {w w':World} {a:OA} {n k:Nat} (h:MkdRAks w a n k) (hb:Below w.heap.size w w'):MkdRAks w' a n k:=by
 rcases h with h | ⟨b,o,e,h⟩
 ·exact .inl h
 ·exact .inr ⟨b,o,e,h.below hb⟩
theorem Et (xs:List Aks) (a:OA) (cap lo:Nat) (k:Nat) (wx ws w:World) (hin:SliceC AksC 4 lo wx a xs) (hlo:0<lo) (hm:Mkd lo wx ws w) (h0:0<k) (h1:k+xs.length*4≤1073741824) :
  Calls Tryz.prog 43 #[.slice a xs.length cap,.int .i64 k] w fun e w'=>e=.returned (.int .i64 ((k+xs.length*4:Nat):Int))∧MkdRAks w' a xs.length k∧Mkd lo wx ws w':=by
 have HI:=iH hin;have HM:=iH hm;clear hin hm;go_enter Tryz.func43,Tryz.ntmps43;go_wp2_with fail;go_loopw [1,5] (fun v i wr=>∃ j:Nat,j≤xs.length∧i=.int .i64 j∧v=.int .i64 ((k+j*4:Nat):Int)∧Hid (MkdRAks wr a j k)∧Hid (Mkd lo wx ws wr)) (fun _ i _=>xs.length - (intOf i).toNat)
 case atStart=>exact ⟨0,zL,rfl,by simp,.inl rfl,HM⟩
 case round =>
  clear HM;obtain ⟨j,hj,rfl,rfl,hV,hM⟩:=hrel;by_cases hlt:j<xs.length
  ·obtain ⟨x,hx⟩:=gXe hlt
   obtain ⟨b,o,rfl,hb0,hbl,hc⟩:=HI.out.at hx;obtain ⟨q0,q1,q2,q3,_,_⟩:=hc;simp only [Nat.add_zero] at q0;have hne:xs≠[]:=fun e=>by rw [e] at hlt;exact absurd hlt (Nat.not_lt_zero _)
   have HFZ:Hid (∀ p,wx.frozen? ⟨b,p,none⟩=false):=HI.out.frz hne hlo;have i0:(0:Int)≤(j:Int):=by omega
   have i1:(j:Int)<(xs.length:Int):=by omega
   have C0:Hid (MkdCAks wr b o (j*4) k):=by
    rcases hV.out with h | ⟨b',o',e,h⟩
    ·intro t ht;omega
    ·cases e;exact h
   have hkb:k+j*4+4≤1073741824:=by omega
   have Q0:=iH q0;have Q1:=iH q1;have Q2:=iH q2;have Q3:=iH q3;clear hx hne hV q0 q1 q2 q3;obtain ⟨y0,hy0⟩:∃ y:Nat,y=k+j*4:=⟨_,rfl⟩;have HY0:=iH hy0;have hs0:((k+j*4:Nat):Int)=(y0:Int):=by rw [hy0]
   rw [hs0];clear hs0;have hyl:y0+4≤1073741824:=by omega
   have hyp:0<y0:=by omega
   clear hy0;go_wp2_with fail;refine (Ax y0 _ (by omega) (by omega)).mono ?_;rintro e wa0 ⟨rfl,hb0⟩;have Ma0:=iH (hM.out.below hb0);have Ca0:=iH (C0.out.below hb0);clear hb0 hM C0;obtain ⟨u0,d0⟩:=Ma0.out.so b (o+j*4) _ Q0;have g0:=(Ma0.out.fz b (o+j*4) hbl).trans (HFZ (o+j*4));have Mb0:=iH (Ma0.out.set hb0 Q0 rfl (.string (Bj y0)));have Cb0:Hid (MkdCAks (wa0.setCell ⟨b,o+j*4,none⟩ (.string (Bj y0))) b o (j*4+1) k):=Ca0.out.set (n:=j*4) (by omega) d0 (by rw [Lq (by omega),HY0.out]);go_upto_region 5 with fail;clear d0 g0 Ma0 Ca0;generalize wa0.setCell ⟨b,o+j*4,none⟩ (.string (Bj y0))=wb0 at *;go_upto_region 6 with fail;obtain ⟨y1,hy1⟩:∃ y:Nat,y=y0+1:=⟨_,rfl⟩;have hs1:((y0:Int)+1)=(y1:Int):=by omega
   rw [hs1];have HY1:Hid (y1=k+j*4+1):=by have:=HY0.out;show _=_;omega
   have hyl1:y1+3≤1073741824:=by omega
   have hyp1:0<y1:=by omega
   clear hs1 hy1;go_wp2_with fail;refine (Ax y1 _ (by omega) (by omega)).mono ?_;rintro e wa1 ⟨rfl,hb1⟩;have Ma1:=iH (Mb0.out.below hb1);have Ca1:=iH (Cb0.out.below hb1);clear hb1 Mb0 Cb0;obtain ⟨u1,d1⟩:=Ma1.out.so b (o+j*4+1) _ Q1;have g1:=(Ma1.out.fz b (o+j*4+1) hbl).trans (HFZ (o+j*4+1));have Mb1:=iH (Ma1.out.set hb0 Q1 rfl (.string (Bj y1)));have Cb1:Hid (MkdCAks (wa1.setCell ⟨b,o+j*4+1,none⟩ (.string (Bj y1))) b o (j*4+1+1) k):=Ca1.out.set (n:=j*4+1) (by omega) d1 (by rw [Lq (by omega),HY1.out,Nat.add_assoc]);go_upto_region 7 with fail;clear d1 g1 Ma1 Ca1;generalize wa1.setCell ⟨b,o+j*4+1,none⟩ (.string (Bj y1))=wb1 at *;go_upto_region 8 with fail;obtain ⟨y2,hy2⟩:∃ y:Nat,y=y1+1:=⟨_,rfl⟩;have hs2:((y1:Int)+1)=(y2:Int):=by omega
   rw [hs2];have HY2:Hid (y2=k+j*4+2):=by have:=HY1.out;show _=_;omega
   have hyl2:y2+2≤1073741824:=by omega
   have hyp2:0<y2:=by omega
   clear hs2 hy2;obtain ⟨u2,d2⟩:=Mb1.out.so b (o+j*4+2) _ Q2;have g2:=(Mb1.out.fz b (o+j*4+2) hbl).trans (HFZ (o+j*4+2));have Mb2:=iH (Mb1.out.set hb0 Q2 rfl (.int .i64 (y2:Int)));have Cb2:Hid (MkdCAks (wb1.setCell ⟨b,o+j*4+2,none⟩ (.int .i64 (y2:Int))) b o (j*4+2+1) k):=Cb1.out.set (n:=j*4+2) (by omega) d2 (by rw [Lo (by omega),HY2.out,Nat.add_assoc]);go_upto_region 9 with fail;clear d2 g2 Mb1 Cb1;generalize wb1.setCell ⟨b,o+j*4+2,none⟩ (.int .i64 (y2:Int))=wb2 at *;go_upto_region 10 with fail;obtain ⟨y3,hy3⟩:∃ y:Nat,y=y2+1:=⟨_,rfl⟩;have hs3:((y2:Int)+1)=(y3:Int):=by omega
   rw [hs3];have HY3:Hid (y3=k+j*4+3):=by have:=HY2.out;show _=_;omega
   have hyl3:y3+1≤1073741824:=by omega
   have hyp3:0<y3:=by omega
   clear hs3 hy3;obtain ⟨u3,d3⟩:=Mb2.out.so b (o+j*4+3) _ Q3;have g3:=(Mb2.out.fz b (o+j*4+3) hbl).trans (HFZ (o+j*4+3));have Mb3:=iH (Mb2.out.set hb0 Q3 rfl (.int .i64 (y3:Int)));have Cb3:Hid (MkdCAks (wb2.setCell ⟨b,o+j*4+3,none⟩ (.int .i64 (y3:Int))) b o (j*4+3+1) k):=Cb2.out.set (n:=j*4+3) (by omega) d3 (by rw [Lo (by omega),HY3.out,Nat.add_assoc]);go_upto_region 11 with fail;clear d3 g3 Mb2 Cb2;generalize wb2.setCell ⟨b,o+j*4+3,none⟩ (.int .i64 (y3:Int))=wb3 at *
   have HR:Hid (MkdRAks wb3 (some ⟨b,o,none⟩) (j+1) k):=.inr ⟨b,o,rfl,by
    have h:=Cb3.out;rw [show j*4+3+1=(j+1)*4 by omega] at h
    exact h⟩
   have hend:((y3:Int)+1)=((k+(j+1)*4:Nat):Int):=by have:=HY3.out;omega
   go_wp2_with fail;go_roundw
   case rel=>exact ⟨j+1,by omega,by go_num,by first | rw [hend] | go_num,HR,Mb3⟩
   case measure=>simp [intOf];omega
  ·have hje:j=xs.length:=by omega
   subst hje;go_wp2_with fail;go_ret;exact ⟨rfl,hV.out,hM.out⟩
theorem Jg (a:OA) (n cap k:Nat) (w:World) (hin:MkdRAks w a n k) (h0:0<k) (h1:k+n*4≤1073741824) :
  Calls Tryz.prog 47 #[.slice a n cap,.int .i64 k] w (Rt (.int .i64 ((k+n*4:Nat):Int)) w):=by
 have HI:=iH hin;clear hin;go_enter Tryz.func47,Tryz.ntmps47;go_wp2_with fail;go_loopw [1,5] (fun v i wr=>∃ j:Nat,j≤n∧i=.int .i64 j∧v=.int .i64 ((k+j*4:Nat):Int)∧Hid (Below w.heap.size w wr)) (fun _ i _=>n - (intOf i).toNat)
 case atStart=>exact ⟨0,zL,rfl,by simp,Below.refl _ _⟩
 case round =>
  obtain ⟨j,hj,rfl,rfl,hB⟩:=hrel;by_cases hlt:j<n
  ·have hM:=HI.out.below hB.out
   obtain ⟨b,o,rfl,hc⟩:∃ b o,a=some ⟨b,o,none⟩∧MkdCAks wr b o (n*4) k:=by
    rcases hM with h | h
    ·omega
    ·exact h
   have HC:=iH hc;have i0:(0:Int)≤(j:Int):=by omega
   have i1:(j:Int)<(n:Int):=by omega
   have hkb:k+j*4+4≤1073741824:=by omega
   have hbl:b<wr.heap.size:=block_lt_of_cell (hc (j*4) (by omega));clear hc hM;obtain ⟨y0,hy0⟩:∃ y:Nat,y=k+j*4:=⟨_,rfl⟩;have HY0:=iH hy0;have hs0:((k+j*4:Nat):Int)=(y0:Int):=by rw [hy0]
   rw [hs0];have hyl0:y0+4≤1073741824:=by omega
   have hyp0:0<y0:=by omega
   clear hy0 hs0;have c0:wr.cell? ⟨b,o+j*4,none⟩=some (.string (Bj y0)):=by
    have h:=HC.out (j*4) (by omega);rw [Lq (by omega)] at h;have e:=HY0.out;rw [e,show o+j*4=o+(j*4) by omega];exact h
   have HCC:=iH c0;go_upto_region 4 with fail;refine wp_region_held_drew (S:=fun wy=>wy.cell? ⟨b,o+j*4,none⟩=some (.string (Bj y0))) (by kernel_rfl) (by simpa using c0) (fun hS=>?_);refine tz 0 12 (.slice (some ⟨b,o,none⟩) n cap) rfl hS ?_;simp only [pX];refine tz 1 13 (.int .i64 (j:Int)) rfl hS ?_;simp only [pX];refine ty 2 ⟨some 14,_,_,_,_,none⟩ (.pointer (some ⟨b,o+j*4,none⟩)) rfl (by rfl) ?_ hS ?_
   ·intro wy hy
    clear hy
    first | (go_simp;done) | (go_simp;intro hh;omega)
   simp only [pX];refine tz 3 15 (.pointer (some ⟨b,o+j*4,none⟩)) rfl hS ?_;simp only [pX];refine ty 4 ⟨some 16,_,_,_,_,none⟩ (.string (Bj y0)) rfl (by rfl) ?_ hS ?_
   ·intro wy hy
    have h0:=hy;clear hy;go_simp
   simp only [pX];refine tz 5 17 (.int .i64 (y0:Int)) rfl hS ?_;simp only [pX];refine rd1 6 ⟨some 18,_,_,_,_,none⟩ rfl (fun K hK=>?_);go_simp;refine (Ax y0 _ (by omega) (by omega)).mono ?_;rintro e wm0 ⟨rfl,hb1⟩;have hd:Below wr.heap.size wr wm0:=(Below.refl _ wr).drew.trans hb1;have HBm0:=qTH hB hd;have HCm0:=iH (HC.out.below hd);refine hK.out _ _ ((hd.cell (p:=⟨b,o+j*4,none⟩) (block_lt_of_cell c0)).trans HCC) (fun hS=>?_);clear hK K;clear hb1 hd HCC c0 hB HC;refine tz 7 19 (.bool false) rfl hS ?_;simp only [pX];refine td ?_;clear hS;go_upto_region 7 with fail;obtain ⟨y1,hy1⟩:∃ y:Nat,y=y0+1:=⟨_,rfl⟩;have hs1:((y0:Int)+1)=(y1:Int):=by omega
   rw [hs1];have HY1:Hid (y1=k+j*4+1):=by have:=HY0.out;show _=_;omega
   have hyl1:y1+3≤1073741824:=by omega
   have hyp1:0<y1:=by omega
   clear hs1 hy1;have c1:wm0.cell? ⟨b,o+j*4+1,none⟩=some (.string (Bj y1)):=by
    have h:=HCm0.out (j*4+1) (by omega);rw [Lq (by omega)] at h;have e:=HY1.out;rw [e,Nat.add_assoc k,show o+j*4+1=o+(j*4+1) by omega];exact h
   have HCC:=iH c1;go_upto_region 7 with fail;refine wp_region_held_drew (S:=fun wy=>wy.cell? ⟨b,o+j*4+1,none⟩=some (.string (Bj y1))) (by kernel_rfl) (by simpa using c1) (fun hS=>?_);refine tz 0 22 (.slice (some ⟨b,o,none⟩) n cap) rfl hS ?_;simp only [pX];refine tz 1 23 (.int .i64 (j:Int)) rfl hS ?_;simp only [pX];refine ty 2 ⟨some 24,_,_,_,_,none⟩ (.pointer (some ⟨b,o+j*4,none⟩)) rfl (by rfl) ?_ hS ?_
   ·intro wy hy
    clear hy
    first | (go_simp;done) | (go_simp;intro hh;omega)
   simp only [pX];refine tz 3 25 (.pointer (some ⟨b,o+j*4+1,none⟩)) rfl hS ?_;simp only [pX];refine ty 4 ⟨some 26,_,_,_,_,none⟩ (.string (Bj y1)) rfl (by rfl) ?_ hS ?_
   ·intro wy hy
    have h0:=hy;clear hy;go_simp
   simp only [pX];refine tz 5 27 (.int .i64 (y1:Int)) rfl hS ?_;simp only [pX];refine rd1 6 ⟨some 28,_,_,_,_,none⟩ rfl (fun K hK=>?_);go_simp;refine (Ax y1 _ (by omega) (by omega)).mono ?_;rintro e wm1 ⟨rfl,hb1⟩;have hd:Below wm0.heap.size wm0 wm1:=(Below.refl _ wm0).drew.trans hb1;have HBm1:=qTH HBm0 hd;have HCm1:=iH (HCm0.out.below hd);refine hK.out _ _ ((hd.cell (p:=⟨b,o+j*4+1,none⟩) (block_lt_of_cell c1)).trans HCC) (fun hS=>?_);clear hK K;clear hb1 hd HCC c1 HBm0 HCm0;refine tz 7 29 (.bool false) rfl hS ?_;simp only [pX];refine td ?_;clear hS;go_upto_region 10 with fail;obtain ⟨y2,hy2⟩:∃ y:Nat,y=y1+1:=⟨_,rfl⟩;have hs2:((y1:Int)+1)=(y2:Int):=by omega
   rw [hs2];have HY2:Hid (y2=k+j*4+2):=by have:=HY1.out;show _=_;omega
   have hyl2:y2+2≤1073741824:=by omega
   have hyp2:0<y2:=by omega
   clear hs2 hy2;have c2:wm1.cell? ⟨b,o+j*4+2,none⟩=some (.int .i64 (y2:Int)):=by
    have h:=HCm1.out (j*4+2) (by omega);rw [Lo (by omega)] at h;have e:=HY2.out;rw [e,Nat.add_assoc k,show o+j*4+2=o+(j*4+2) by omega];exact h
   go_upto_region 13 with fail;clear c2;obtain ⟨y3,hy3⟩:∃ y:Nat,y=y2+1:=⟨_,rfl⟩;have hs3:((y2:Int)+1)=(y3:Int):=by omega
   rw [hs3];have HY3:Hid (y3=k+j*4+3):=by have:=HY2.out;show _=_;omega
   have hyl3:y3+1≤1073741824:=by omega
   have hyp3:0<y3:=by omega
   clear hs3 hy3;have c3:wm1.cell? ⟨b,o+j*4+3,none⟩=some (.int .i64 (y3:Int)):=by
    have h:=HCm1.out (j*4+3) (by omega);rw [Lo (by omega)] at h;have e:=HY3.out;rw [e,Nat.add_assoc k,show o+j*4+3=o+(j*4+3) by omega];exact h
   have hend:((y3:Int)+1)=((k+(j+1)*4:Nat):Int):=by have:=HY3.out;omega
   go_wp2_with fail;go_roundw
   case rel=>exact ⟨j+1,by omega,by go_num,by first | rw [hend] | go_num,HBm1⟩
   case measure=>simp [intOf];omega
  ·have hje:j=n:=by omega
   subst hje;go_wp2_with fail;go_ret;exact ⟨rfl,hB.out⟩
end Go.Proofs.YtkiloaiffopllaaGreat
