import Derived.Test.YtpeajnkkdioflaaGreatMrx
set_option maxHeartbeats 4000000
namespace Go.Proofs.YtpeajnkkdioflaaGreat
set_option maxRecDepth 100000
open Go.RowKit
theorem Zd (g:Nat) (J:Nat):∀ N,J≤N→∃ M,LCb g N=LCb g J++M
 | 0,h=>⟨[],by rw [show J=0 by omega];rfl⟩
 | N+1,h=>by
  by_cases e:J=N+1
  ·exact ⟨[],by rw [e,List.append_nil]⟩
  ·obtain ⟨M,hM⟩:=Zd g J N (by omega)
   refine ⟨M++(LCb g (N+1)).drop (LCb g N).length,?_⟩;rw [← List.append_assoc,← hM];simp [LCb]
theorem lD {w:World} {g N k:Nat} (h:Mk w (LCb g N) k) {J:Nat} (hJ:J<N):Mk w ([(g,J*4,0),(g,J*4+1,1),(g,J*4+2,1),(g,J*4+3,1)]) (k+(LCb g J).length):=by
 obtain ⟨M,hM⟩:=Zd g (J+1) N (by omega);rw [hM] at h;have h2:Mk w (LCb g J++([(g,J*4,0),(g,J*4+1,1),(g,J*4+2,1),(g,J*4+3,1)])) k:=h.left;exact h2.right
theorem Kw (g N:Nat) (cap k:Nat) (w:World) (hM:Mk w (LCb g N) k) (h0:0<k) (h1:k+N*4≤1073741824) :
  Calls Tryz.prog 38 #[.slice (some ⟨g,0,none⟩) N cap,.int .i64 k] w fun e w'=>e=.returned (.int .i64 ((k+N*4:Nat):Int))∧Below w.heap.size w w':=by
 have HM:=iH hM;have hN:N≤1073741824:=by omega
 have H1:Hid (k+(LCb g N).length≤1073741824):=by show _≤_;rw [Hq];exact h1
 clear hM h1;go_enter Tryz.func38,Tryz.ntmps38;go_wp2_with fail;go_loopw [1,5] (fun v i wr=>∃ J:Nat,J≤N∧i=.int .i64 J∧v=.int .i64 ((k+(LCb g J).length:Nat):Int)∧Hid (Below w.heap.size w wr)) (fun _ i _=>N - (intOf i).toNat)
 case atStart=>exact ⟨0,Nat.zero_le _,rfl,rfl,Below.refl _ _⟩
 case round =>
  obtain ⟨J,hj,rfl,rfl,hB⟩:=hrel;by_cases hlt:J<N
  ·have i0:(0:Int)≤(J:Int):=by omega
   have i1:(J:Int)<(N:Int):=by omega
   have HEL:=iH (lD HM.out hlt);obtain ⟨T0,hT0⟩:∃ T:Nat,T=k+(LCb g J).length:=⟨_,rfl⟩;rw [← hT0] at HEL ⊢;have HLJ:Hid ((LCb g (J+1)).length=(LCb g J).length+4):=by show _=_;simp only [LCb,List.length_append,List.length_cons,List.length_nil]
   have hTb:0<T0∧T0+4≤1073741824:=by have h8:=Oe g (J+1) N (by omega);have h9:=HLJ.out;have h7:=H1.out;omega
   have HT0:=iH hT0;clear hT0;have HG0:Hid (Mk w ([(g,J*4,0),(g,J*4+1,1),(g,J*4+2,1),(g,J*4+3,1)]) (T0)):=by have h:=HEL.out;exact h
   have D0:Hid (w.cell? ⟨g,J*4,none⟩=some (mvK 0 (T0+0))):=HG0.out 0 g (J*4) 0 rfl;have D1:Hid (w.cell? ⟨g,J*4+1,none⟩=some (mvK 1 (T0+1))):=HG0.out 1 g (J*4+1) 1 rfl;have D2:Hid (w.cell? ⟨g,J*4+2,none⟩=some (mvK 1 (T0+2))):=HG0.out 2 g (J*4+2) 1 rfl;have D3:Hid (w.cell? ⟨g,J*4+3,none⟩=some (mvK 1 (T0+3))):=HG0.out 3 g (J*4+3) 1 rfl;clear HEL HG0;have c20:wr.cell? ⟨g,J*4,none⟩=some (.string (Dc T0)):=by have h:=(hB.out.cell (p:=⟨g,J*4,none⟩) (block_lt_of_cell D0.out)).trans D0.out;rw [show T0+0=T0 by  omega] at h;exact h
   go_upto_region 4 with fail;refine wp_region_held_drew (S:=fun wy=>wy.cell? ⟨g,J*4,none⟩=some (.string (Dc T0))) (by kernel_rfl) c20 (fun hS=>?_);refine tz 0 12 (.slice (some ⟨g,0,none⟩) N cap) rfl hS ?_;simp only [pA,pB,pC,pD];refine tz 1 13 (.int .i64 (J:Int)) rfl hS ?_;simp only [pA,pB,pC,pD];refine ty 2 ⟨some 14,_,_,_,_,none⟩ (.pointer (some ⟨g,J*4,none⟩)) rfl (by rfl) ?_ hS ?_
   ·intro wy hy
    clear hy
    first | (go_simp;done) | (go_simp;intro hh;omega) | (go_simp;omega)
   simp only [pA,pB,pC,pD];refine tz 3 15 (.pointer (some ⟨g,J*4,none⟩)) rfl hS ?_;simp only [pA,pB,pC,pD];refine ty 4 ⟨some 16,_,_,_,_,none⟩ (.string (Dc T0)) rfl (by rfl) ?_ hS ?_
   ·intro wy hy
    have h9:=hy;clear hy;go_simp
   simp only [pA,pB,pC,pD];refine tz 5 17 (.int .i64 ((T0:Nat):Int)) rfl hS ?_;simp only [pA,pB,pC,pD];refine rd1 6 ⟨some 18,_,_,_,_,none⟩ rfl (fun K hK=>?_);go_simp;refine (Bx T0 _ (by omega) (by omega)).mono ?_;rintro e wa0 ⟨rfl,hb1⟩;have hd:Below wr.heap.size wr wa0:=(Below.refl _ wr).drew.trans hb1;replace hB:=iH (hB.out.trans (hd.mono hB.out.size));refine hK.out _ _ ((hd.cell (p:=⟨g,J*4,none⟩) (block_lt_of_cell c20)).trans c20) (fun hS=>?_);clear hK K hb1 hd c20;refine tz 7 19 (.bool false) rfl hS ?_;simp only [pA,pB,pC,pD];refine td ?_;clear hS;go_upto_region 7 with fail;obtain ⟨T1,hT1⟩:∃ T:Nat,T=T0+1:=⟨_,rfl⟩;rw [Az hT1];have HT1:=iH hT1;have hTb1:0<T1∧T1+3≤1073741824:=by omega
   clear hT1;have c21:wa0.cell? ⟨g,J*4+1,none⟩=some (.int .i64 ((T1:Nat):Int)):=by have h:=(hB.out.cell (p:=⟨g,J*4+1,none⟩) (block_lt_of_cell D1.out)).trans D1.out;rw [show T0+1=T1 by have e1:=HT1.out;omega] at h;exact h
   go_upto_region 10 with fail;clear c21;obtain ⟨T2,hT2⟩:∃ T:Nat,T=T1+1:=⟨_,rfl⟩;rw [Az hT2];have HT2:=iH hT2;have hTb2:0<T2∧T2+2≤1073741824:=by omega
   clear hT2;have c22:wa0.cell? ⟨g,J*4+2,none⟩=some (.int .i64 ((T2:Nat):Int)):=by have h:=(hB.out.cell (p:=⟨g,J*4+2,none⟩) (block_lt_of_cell D2.out)).trans D2.out;rw [show T0+2=T2 by have e1:=HT1.out;have e2:=HT2.out;omega] at h;exact h
   go_upto_region 13 with fail;clear c22;obtain ⟨T3,hT3⟩:∃ T:Nat,T=T2+1:=⟨_,rfl⟩;rw [Az hT3];have HT3:=iH hT3;have hTb3:0<T3∧T3+1≤1073741824:=by omega
   clear hT3;have c23:wa0.cell? ⟨g,J*4+3,none⟩=some (.int .i64 ((T3:Nat):Int)):=by have h:=(hB.out.cell (p:=⟨g,J*4+3,none⟩) (block_lt_of_cell D3.out)).trans D3.out;rw [show T0+3=T3 by have e1:=HT1.out;have e2:=HT2.out;have e3:=HT3.out;omega] at h;exact h
   go_wp2_with fail;go_roundw
   case rel=>exact ⟨J+1,by omega,by go_num,by have e0:=HT0.out;have e99:=HLJ.out;have e1:=HT1.out;have e2:=HT2.out;have e3:=HT3.out;congr 1;omega,hB⟩
   case measure=>simp [intOf];omega
  ·have hje:J=N:=by omega
   subst hje;go_wp2_with fail;go_ret;exact ⟨by rw [← Hq g J];rfl,hB.out⟩
theorem Rz (a:Option Addr) (cap T:Nat) (w:World) :
  Calls Tryz.prog 73 #[.slice a 0 cap,.int .i64 (T:Int)] w fun e w'=>e=.returned (.int .i64 (T:Int))∧w'=w:=by
 go_enter Tryz.func73,Tryz.ntmps73;go_wp2_with fail;go_loopw [1,5] (fun v i wr=>v=.int .i64 (T:Int)∧i=.int .i64 0∧wr=w) (fun _ _ _=>0)
 case atStart=>exact ⟨rfl,rfl,rfl⟩
 case round =>
  obtain ⟨rfl,rfl,rfl⟩:=hrel;go_wp2_with fail;go_ret;exact ⟨rfl,rfl⟩
theorem Ls (a:Option Addr) (cap T:Nat) (w:World) :
  Calls Tryz.prog 38 #[.slice a 0 cap,.int .i64 (T:Int)] w fun e w'=>e=.returned (.int .i64 (T:Int))∧w'=w:=by
 go_enter Tryz.func38,Tryz.ntmps38;go_wp2_with fail;go_loopw [1,5] (fun v i wr=>v=.int .i64 (T:Int)∧i=.int .i64 0∧wr=w) (fun _ _ _=>0)
 case atStart=>exact ⟨rfl,rfl,rfl⟩
 case round =>
  obtain ⟨rfl,rfl,rfl⟩:=hrel;go_wp2_with fail;go_ret;exact ⟨rfl,rfl⟩
theorem kF {a:Option Addr} {n:Nat} (he:n=0∨∃ b,a=some ⟨b,0,none⟩):(LS a n).length=n:=by
 rcases he with e | ⟨b,e⟩
 ·rw [e];cases a <;> rfl
 ·rw [e];exact Yf _ _ _
theorem Se {w:World} {a:Option Addr} {n:Nat} (he:n=0∨∃ b,a=some ⟨b,0,none⟩) (cap T:Nat) (hM:Mk w (LS a n) T) (h0:0<T) (h1:T+n≤1073741824) :
  Calls Tryz.prog 73 #[.slice a n cap,.int .i64 (T:Int)] w fun e w'=>e=.returned (.int .i64 ((T+n:Nat):Int))∧Below w.heap.size w w':=by
 rcases he with e | ⟨b,e⟩
 ·rw [e]
  refine (Rz a cap T w).mono ?_;rintro e' w' ⟨rfl,rfl⟩;exact ⟨rfl,Below.refl _ _⟩
 ·rw [e] at hM ⊢
  exact Sj b 0 n cap T w hM h0 h1
theorem Zz {a:Option Addr} {n:Nat} (he:n=0∨∃ b,a=some ⟨b,0,none⟩):(LCt a n).length=n*4:=by
 rcases he with e | ⟨b,e⟩
 ·rw [e];cases a <;> rfl
 ·rw [e];exact Hq _ _
theorem Ic {w:World} {a:Option Addr} {n:Nat} (he:n=0∨∃ b,a=some ⟨b,0,none⟩) (cap T:Nat) (hM:Mk w (LCt a n) T) (h0:0<T) (h1:T+n*4≤1073741824) :
  Calls Tryz.prog 38 #[.slice a n cap,.int .i64 (T:Int)] w fun e w'=>e=.returned (.int .i64 ((T+n*4:Nat):Int))∧Below w.heap.size w w':=by
 rcases he with e | ⟨b,e⟩
 ·rw [e]
  refine (Ls a cap T w).mono ?_;rintro e' w' ⟨rfl,rfl⟩;exact ⟨rfl,Below.refl _ _⟩
 ·rw [e] at hM ⊢
  exact Kw b n cap T w hM h0 h1
theorem Zi (g:Nat) (e0:Nat→Option Addr) (m0:Nat→Nat) (J:Nat):∀ N,J≤N→∃ M,LZn g e0 m0 N=LZn g e0 m0 J++M
 | 0,h=>⟨[],by rw [show J=0 by omega];rfl⟩
 | N+1,h=>by
  by_cases e:J=N+1
  ·exact ⟨[],by rw [e,List.append_nil]⟩
  ·obtain ⟨M,hM⟩:=Zi g e0 m0 J N (by omega)
   refine ⟨M++(LZn g e0 m0 (N+1)).drop (LZn g e0 m0 N).length,?_⟩;rw [← List.append_assoc,← hM];simp [LZn]
theorem lB {w:World} {g N k:Nat} {e0:Nat→Option Addr} {m0:Nat→Nat} (h:Mk w (LZn g e0 m0 N) k) {J:Nat} (hJ:J<N):Mk w ([(g,J*2,0)]++(LCt (e0 J) (m0 J))) (k+(LZn g e0 m0 J).length):=by
 obtain ⟨M,hM⟩:=Zi g e0 m0 (J+1) N (by omega);rw [hM] at h;have h2:Mk w (LZn g e0 m0 J++([(g,J*2,0)]++(LCt (e0 J) (m0 J)))) k:=h.left;exact h2.right
theorem Sa (g N:Nat) (e0:Nat→Option Addr) (m0 c0:Nat→Nat) (cap k:Nat) (w:World) (hM:Mk w (LZn g e0 m0 N) k) (hS0:∀ j,j<N→w.cell? ⟨g,j*2+1,none⟩=some (.slice (e0 j) (m0 j) (c0 j))) (he0:∀ j,j<N→m0 j=0∨∃ b,e0 j=some ⟨b,0,none⟩) (hN:N≤1048576) (h0:0<k) (h1:k+(LZn g e0 m0 N).length≤1073741824) :
  Calls Tryz.prog 37 #[.slice (some ⟨g,0,none⟩) N cap,.int .i64 k] w fun e w'=>e=.returned (.int .i64 ((k+(LZn g e0 m0 N).length:Nat):Int))∧Below w.heap.size w w':=by
 have HM:=iH hM;have HC0:=iH hS0;have HE0:=iH he0;clear hS0 he0;have H1:Hid (k+(LZn g e0 m0 N).length≤1073741824):=h1;clear hM h1;go_enter Tryz.func37,Tryz.ntmps37;go_wp2_with fail;go_loopw [1,5] (fun v i wr=>∃ J:Nat,J≤N∧i=.int .i64 J∧v=.int .i64 ((k+(LZn g e0 m0 J).length:Nat):Int)∧Hid (Below w.heap.size w wr)) (fun _ i _=>N - (intOf i).toNat)
 case atStart=>exact ⟨0,Nat.zero_le _,rfl,rfl,Below.refl _ _⟩
 case round =>
  obtain ⟨J,hj,rfl,rfl,hB⟩:=hrel;by_cases hlt:J<N
  ·have i0:(0:Int)≤(J:Int):=by omega
   have i1:(J:Int)<(N:Int):=by omega
   have HEL:=iH (lB HM.out hlt);have hej0:=HE0.out J hlt;have HS0:=iH (Zz hej0);obtain ⟨T0,hT0⟩:∃ T:Nat,T=k+(LZn g e0 m0 J).length:=⟨_,rfl⟩;rw [← hT0] at HEL ⊢;have HLJ:Hid ((LZn g e0 m0 (J+1)).length=(LZn g e0 m0 J).length+1+m0 J*4):=by show _=_;have h9:=HS0.out;simp only [LZn,List.length_append,List.length_cons,List.length_nil];omega
   have hTb:0<T0∧T0+1+m0 J*4≤1073741824:=by have h8:=Ou g e0 m0 (J+1) N (by omega);have h9:=HLJ.out;have h7:=H1.out;omega
   have HT0:=iH hT0;clear hT0;have HG0:Hid (Mk w ([(g,J*2,0)]) (T0)):=by have h:=HEL.out.left;exact h
   have D0:Hid (w.cell? ⟨g,J*2,none⟩=some (mvK 0 (T0+0))):=HG0.out 0 g (J*2) 0 rfl;have HG1:Hid (Mk w (LCt (e0 J) (m0 J)) (T0+1)):=by have h:=HEL.out.right;exact h
   clear HEL HG0;have c20:wr.cell? ⟨g,J*2,none⟩=some (.string (Dc T0)):=by have h:=(hB.out.cell (p:=⟨g,J*2,none⟩) (block_lt_of_cell D0.out)).trans D0.out;rw [show T0+0=T0 by  omega] at h;exact h
   go_upto_region 4 with fail;refine wp_region_held_drew (S:=fun wy=>wy.cell? ⟨g,J*2,none⟩=some (.string (Dc T0))) (by kernel_rfl) c20 (fun hS=>?_);refine tz 0 12 (.slice (some ⟨g,0,none⟩) N cap) rfl hS ?_;simp only [pA,pB,pC,pD];refine tz 1 13 (.int .i64 (J:Int)) rfl hS ?_;simp only [pA,pB,pC,pD];refine ty 2 ⟨some 14,_,_,_,_,none⟩ (.pointer (some ⟨g,J*2,none⟩)) rfl (by rfl) ?_ hS ?_
   ·intro wy hy
    clear hy
    first | (go_simp;done) | (go_simp;intro hh;omega) | (go_simp;omega)
   simp only [pA,pB,pC,pD];refine tz 3 15 (.pointer (some ⟨g,J*2,none⟩)) rfl hS ?_;simp only [pA,pB,pC,pD];refine ty 4 ⟨some 16,_,_,_,_,none⟩ (.string (Dc T0)) rfl (by rfl) ?_ hS ?_
   ·intro wy hy
    have h9:=hy;clear hy;go_simp
   simp only [pA,pB,pC,pD];refine tz 5 17 (.int .i64 ((T0:Nat):Int)) rfl hS ?_;simp only [pA,pB,pC,pD];refine rd1 6 ⟨some 18,_,_,_,_,none⟩ rfl (fun K hK=>?_);go_simp;refine (Bx T0 _ (by omega) (by omega)).mono ?_;rintro e wa0 ⟨rfl,hb1⟩;have hd:Below wr.heap.size wr wa0:=(Below.refl _ wr).drew.trans hb1;replace hB:=iH (hB.out.trans (hd.mono hB.out.size));refine hK.out _ _ ((hd.cell (p:=⟨g,J*2,none⟩) (block_lt_of_cell c20)).trans c20) (fun hS=>?_);clear hK K hb1 hd c20;refine tz 7 19 (.bool false) rfl hS ?_;simp only [pA,pB,pC,pD];refine td ?_;clear hS;go_upto_region 7 with fail;obtain ⟨T1,hT1⟩:∃ T:Nat,T=T0+1:=⟨_,rfl⟩;rw [Az hT1];have HT1:=iH hT1;have hTb1:0<T1∧T1+0+m0 J*4≤1073741824:=by omega
   clear hT1;have c2:wa0.cell? ⟨g,J*2+1,none⟩=some (.slice (e0 J) (m0 J) (c0 J)):=(hB.out.cell (p:=⟨g,J*2+1,none⟩) (block_lt_of_cell (HC0.out J hlt))).trans (HC0.out J hlt);have HS2:Hid (Mk wa0 (LCt (e0 J) (m0 J)) T1):=by have h:=HG1.out;rw [show T0+1=T1 by have e1:=HT1.out;omega] at h;exact fun j b o c hj=>(hB.out.cell (p:=⟨b,o,none⟩) (block_lt_of_cell (h j b o c hj))).trans (h j b o c hj)
   go_wp2_with fail;refine (Ic hej0 (c0 J) T1 HS2.out (by omega) (by omega)).mono ?_;rintro e ws0 ⟨rfl,hb⟩;replace hB:=iH (hB.out.trans (hb.mono hB.out.size));clear hb c2 HS2;obtain ⟨T2,hT2⟩:∃ T:Nat,T=T1+m0 J*4:=⟨_,rfl⟩;rw [← hT2];have HT2:=iH hT2;have hTb2:0<T2∧T2+0≤1073741824:=by omega
   clear hT2;go_wp2_with fail;go_roundw
   case rel=>exact ⟨J+1,by omega,by go_num,by have e0:=HT0.out;have e99:=HLJ.out;have e1:=HT1.out;have e2:=HT2.out;congr 1;omega,hB⟩
   case measure=>simp [intOf];omega
  ·have hje:J=N:=by omega
   subst hje;go_wp2_with fail;go_ret;exact ⟨rfl,hB.out⟩
theorem Zq (g:Nat) (e0:Nat→Option Addr) (m0:Nat→Nat) (e1:Nat→Option Addr) (m1:Nat→Nat) (J:Nat):∀ N,J≤N→∃ M,LRw g e0 m0 e1 m1 N=LRw g e0 m0 e1 m1 J++M
 | 0,h=>⟨[],by rw [show J=0 by omega];rfl⟩
 | N+1,h=>by
  by_cases e:J=N+1
  ·exact ⟨[],by rw [e,List.append_nil]⟩
  ·obtain ⟨M,hM⟩:=Zq g e0 m0 e1 m1 J N (by omega)
   refine ⟨M++(LRw g e0 m0 e1 m1 (N+1)).drop (LRw g e0 m0 e1 m1 N).length,?_⟩;rw [← List.append_assoc,← hM];simp [LRw]
theorem kN {w:World} {g N k:Nat} {e0:Nat→Option Addr} {m0:Nat→Nat} {e1:Nat→Option Addr} {m1:Nat→Nat} (h:Mk w (LRw g e0 m0 e1 m1 N) k) {J:Nat} (hJ:J<N):Mk w ([(g,J*10,0),(g,J*10+1,0)]++(LS (e0 J) (m0 J)++([(g,J*10+3,1),(g,J*10+4,1),(g,J*10+5,2),(g,J*10+6,1),(g,J*10+7,1),(g,J*10+8,1)]++(LCt (e1 J) (m1 J))))) (k+(LRw g e0 m0 e1 m1 J).length):=by
 obtain ⟨M,hM⟩:=Zq g e0 m0 e1 m1 (J+1) N (by omega);rw [hM] at h;have h2:Mk w (LRw g e0 m0 e1 m1 J++([(g,J*10,0),(g,J*10+1,0)]++(LS (e0 J) (m0 J)++([(g,J*10+3,1),(g,J*10+4,1),(g,J*10+5,2),(g,J*10+6,1),(g,J*10+7,1),(g,J*10+8,1)]++(LCt (e1 J) (m1 J)))))) k:=h.left;exact h2.right
theorem Tu (g N:Nat) (e0:Nat→Option Addr) (m0 c0:Nat→Nat) (e1:Nat→Option Addr) (m1 c1:Nat→Nat) (cap k:Nat) (w:World) (hM:Mk w (LRw g e0 m0 e1 m1 N) k) (hS0:∀ j,j<N→w.cell? ⟨g,j*10+2,none⟩=some (.slice (e0 j) (m0 j) (c0 j))) (he0:∀ j,j<N→m0 j=0∨∃ b,e0 j=some ⟨b,0,none⟩) (hS1:∀ j,j<N→w.cell? ⟨g,j*10+9,none⟩=some (.slice (e1 j) (m1 j) (c1 j))) (he1:∀ j,j<N→m1 j=0∨∃ b,e1 j=some ⟨b,0,none⟩) (hN:N≤1048576) (h0:0<k) (h1:k+(LRw g e0 m0 e1 m1 N).length≤1073741824) :
  Calls Tryz.prog 36 #[.slice (some ⟨g,0,none⟩) N cap,.int .i64 k] w fun e w'=>e=.returned (.int .i64 ((k+(LRw g e0 m0 e1 m1 N).length:Nat):Int))∧Below w.heap.size w w':=by
 have HM:=iH hM;have HC0:=iH hS0;have HE0:=iH he0;clear hS0 he0;have HC1:=iH hS1;have HE1:=iH he1;clear hS1 he1;have H1:Hid (k+(LRw g e0 m0 e1 m1 N).length≤1073741824):=h1;clear hM h1;go_enter Tryz.func36,Tryz.ntmps36;go_wp2_with fail;go_loopw [1,5] (fun v i wr=>∃ J:Nat,J≤N∧i=.int .i64 J∧v=.int .i64 ((k+(LRw g e0 m0 e1 m1 J).length:Nat):Int)∧Hid (Below w.heap.size w wr)) (fun _ i _=>N - (intOf i).toNat)
 case atStart=>exact ⟨0,Nat.zero_le _,rfl,rfl,Below.refl _ _⟩
 case round =>
  obtain ⟨J,hj,rfl,rfl,hB⟩:=hrel;by_cases hlt:J<N
  ·have i0:(0:Int)≤(J:Int):=by omega
   have i1:(J:Int)<(N:Int):=by omega
   have HEL:=iH (kN HM.out hlt);have hej0:=HE0.out J hlt;have HS0:=iH (kF hej0);have hej1:=HE1.out J hlt;have HS1:=iH (Zz hej1);obtain ⟨T0,hT0⟩:∃ T:Nat,T=k+(LRw g e0 m0 e1 m1 J).length:=⟨_,rfl⟩;rw [← hT0] at HEL ⊢;have HLJ:Hid ((LRw g e0 m0 e1 m1 (J+1)).length=(LRw g e0 m0 e1 m1 J).length+8+m0 J+m1 J*4):=by show _=_;have h9:=HS0.out;have h8:=HS1.out;simp only [LRw,List.length_append,List.length_cons,List.length_nil];omega
   have hTb:0<T0∧T0+8+m0 J+m1 J*4≤1073741824:=by have h8:=Oj g e0 m0 e1 m1 (J+1) N (by omega);have h9:=HLJ.out;have h7:=H1.out;omega
   have HT0:=iH hT0;clear hT0;have HG0:Hid (Mk w ([(g,J*10,0),(g,J*10+1,0)]) (T0)):=by have h:=HEL.out.left;exact h
   have D0:Hid (w.cell? ⟨g,J*10,none⟩=some (mvK 0 (T0+0))):=HG0.out 0 g (J*10) 0 rfl;have D1:Hid (w.cell? ⟨g,J*10+1,none⟩=some (mvK 0 (T0+1))):=HG0.out 1 g (J*10+1) 0 rfl;have HG1:Hid (Mk w (LS (e0 J) (m0 J)) (T0+2)):=by have h:=HEL.out.right.left;exact h
   have HG2:Hid (Mk w ([(g,J*10+3,1),(g,J*10+4,1),(g,J*10+5,2),(g,J*10+6,1),(g,J*10+7,1),(g,J*10+8,1)]) (T0+2+m0 J)):=by have h:=HEL.out.right.right.left;rw [HS0.out] at h;exact h
   have D3:Hid (w.cell? ⟨g,J*10+3,none⟩=some (mvK 1 (T0+2+m0 J+0))):=HG2.out 0 g (J*10+3) 1 rfl;have D4:Hid (w.cell? ⟨g,J*10+4,none⟩=some (mvK 1 (T0+2+m0 J+1))):=HG2.out 1 g (J*10+4) 1 rfl;have D5:Hid (w.cell? ⟨g,J*10+5,none⟩=some (mvK 2 (T0+2+m0 J+2))):=HG2.out 2 g (J*10+5) 2 rfl;have D6:Hid (w.cell? ⟨g,J*10+6,none⟩=some (mvK 1 (T0+2+m0 J+3))):=HG2.out 3 g (J*10+6) 1 rfl;have D7:Hid (w.cell? ⟨g,J*10+7,none⟩=some (mvK 1 (T0+2+m0 J+4))):=HG2.out 4 g (J*10+7) 1 rfl;have D8:Hid (w.cell? ⟨g,J*10+8,none⟩=some (mvK 1 (T0+2+m0 J+5))):=HG2.out 5 g (J*10+8) 1 rfl;have HG3:Hid (Mk w (LCt (e1 J) (m1 J)) (T0+2+m0 J+6)):=by have h:=HEL.out.right.right.right;rw [HS0.out] at h;exact h
   clear HEL HG0 HG2;have c20:wr.cell? ⟨g,J*10,none⟩=some (.string (Dc T0)):=by have h:=(hB.out.cell (p:=⟨g,J*10,none⟩) (block_lt_of_cell D0.out)).trans D0.out;rw [show T0+0=T0 by  omega] at h;exact h
   go_upto_region 4 with fail;refine wp_region_held_drew (S:=fun wy=>wy.cell? ⟨g,J*10,none⟩=some (.string (Dc T0))) (by kernel_rfl) c20 (fun hS=>?_);refine tz 0 12 (.slice (some ⟨g,0,none⟩) N cap) rfl hS ?_;simp only [pA,pB,pC,pD];refine tz 1 13 (.int .i64 (J:Int)) rfl hS ?_;simp only [pA,pB,pC,pD];refine ty 2 ⟨some 14,_,_,_,_,none⟩ (.pointer (some ⟨g,J*10,none⟩)) rfl (by rfl) ?_ hS ?_
   ·intro wy hy
    clear hy
    first | (go_simp;done) | (go_simp;intro hh;omega) | (go_simp;omega)
   simp only [pA,pB,pC,pD];refine tz 3 15 (.pointer (some ⟨g,J*10,none⟩)) rfl hS ?_;simp only [pA,pB,pC,pD];refine tz 4 16 (.pointer (some ⟨g,J*10,none⟩)) rfl hS ?_;simp only [pA,pB,pC,pD];refine ty 5 ⟨some 17,_,_,_,_,none⟩ (.string (Dc T0)) rfl (by rfl) ?_ hS ?_
   ·intro wy hy
    have h9:=hy;clear hy;go_simp
   simp only [pA,pB,pC,pD];refine tz 6 18 (.int .i64 ((T0:Nat):Int)) rfl hS ?_;simp only [pA,pB,pC,pD];refine rd1 7 ⟨some 19,_,_,_,_,none⟩ rfl (fun K hK=>?_);go_simp;refine (Bx T0 _ (by omega) (by omega)).mono ?_;rintro e wa0 ⟨rfl,hb1⟩;have hd:Below wr.heap.size wr wa0:=(Below.refl _ wr).drew.trans hb1;replace hB:=iH (hB.out.trans (hd.mono hB.out.size));refine hK.out _ _ ((hd.cell (p:=⟨g,J*10,none⟩) (block_lt_of_cell c20)).trans c20) (fun hS=>?_);clear hK K hb1 hd c20;refine tz 8 20 (.bool false) rfl hS ?_;simp only [pA,pB,pC,pD];refine td ?_;clear hS;go_upto_region 7 with fail;obtain ⟨T1,hT1⟩:∃ T:Nat,T=T0+1:=⟨_,rfl⟩;rw [Az hT1];have HT1:=iH hT1;have hTb1:0<T1∧T1+7+m0 J+m1 J*4≤1073741824:=by omega
   clear hT1;have c21:wa0.cell? ⟨g,J*10+1,none⟩=some (.string (Dc T1)):=by have h:=(hB.out.cell (p:=⟨g,J*10+1,none⟩) (block_lt_of_cell D1.out)).trans D1.out;rw [show T0+1=T1 by have e1:=HT1.out;omega] at h;exact h
   go_upto_region 7 with fail;refine wp_region_held_drew (S:=fun wy=>wy.cell? ⟨g,J*10+1,none⟩=some (.string (Dc T1))) (by kernel_rfl) c21 (fun hS=>?_);refine tz 0 23 (.slice (some ⟨g,0,none⟩) N cap) rfl hS ?_;simp only [pA,pB,pC,pD];refine tz 1 24 (.int .i64 (J:Int)) rfl hS ?_;simp only [pA,pB,pC,pD];refine ty 2 ⟨some 25,_,_,_,_,none⟩ (.pointer (some ⟨g,J*10,none⟩)) rfl (by rfl) ?_ hS ?_
   ·intro wy hy
    clear hy
    first | (go_simp;done) | (go_simp;intro hh;omega) | (go_simp;omega)
   simp only [pA,pB,pC,pD];refine tz 3 26 (.pointer (some ⟨g,J*10,none⟩)) rfl hS ?_;simp only [pA,pB,pC,pD];refine tz 4 27 (.pointer (some ⟨g,J*10+1,none⟩)) rfl hS ?_;simp only [pA,pB,pC,pD];refine ty 5 ⟨some 28,_,_,_,_,none⟩ (.string (Dc T1)) rfl (by rfl) ?_ hS ?_
   ·intro wy hy
    have h9:=hy;clear hy;go_simp
   simp only [pA,pB,pC,pD];refine tz 6 29 (.int .i64 ((T1:Nat):Int)) rfl hS ?_;simp only [pA,pB,pC,pD];refine rd1 7 ⟨some 30,_,_,_,_,none⟩ rfl (fun K hK=>?_);go_simp;refine (Bx T1 _ (by omega) (by omega)).mono ?_;rintro e wa1 ⟨rfl,hb1⟩;have hd:Below wa0.heap.size wa0 wa1:=(Below.refl _ wa0).drew.trans hb1;replace hB:=iH (hB.out.trans (hd.mono hB.out.size));refine hK.out _ _ ((hd.cell (p:=⟨g,J*10+1,none⟩) (block_lt_of_cell c21)).trans c21) (fun hS=>?_);clear hK K hb1 hd c21;refine tz 8 31 (.bool false) rfl hS ?_;simp only [pA,pB,pC,pD];refine td ?_;clear hS;go_upto_region 10 with fail;obtain ⟨T2,hT2⟩:∃ T:Nat,T=T1+1:=⟨_,rfl⟩;rw [Az hT2];have HT2:=iH hT2;have hTb2:0<T2∧T2+6+m0 J+m1 J*4≤1073741824:=by omega
   clear hT2;have c2:wa1.cell? ⟨g,J*10+2,none⟩=some (.slice (e0 J) (m0 J) (c0 J)):=(hB.out.cell (p:=⟨g,J*10+2,none⟩) (block_lt_of_cell (HC0.out J hlt))).trans (HC0.out J hlt);have HS2:Hid (Mk wa1 (LS (e0 J) (m0 J)) T2):=by have h:=HG1.out;rw [show T0+2=T2 by have e1:=HT1.out;have e2:=HT2.out;omega] at h;exact fun j b o c hj=>(hB.out.cell (p:=⟨b,o,none⟩) (block_lt_of_cell (h j b o c hj))).trans (h j b o c hj)
   go_wp2_with fail;refine (Se hej0 (c0 J) T2 HS2.out (by omega) (by omega)).mono ?_;rintro e ws0 ⟨rfl,hb⟩;replace hB:=iH (hB.out.trans (hb.mono hB.out.size));clear hb c2 HS2;obtain ⟨T3,hT3⟩:∃ T:Nat,T=T2+m0 J:=⟨_,rfl⟩;rw [← hT3];have HT3:=iH hT3;have hTb3:0<T3∧T3+6+m1 J*4≤1073741824:=by omega
   clear hT3;go_upto_region 13 with fail;have c23:ws0.cell? ⟨g,J*10+3,none⟩=some (.int .i64 ((T3:Nat):Int)):=by have h:=(hB.out.cell (p:=⟨g,J*10+3,none⟩) (block_lt_of_cell D3.out)).trans D3.out;rw [show T0+2+m0 J+0=T3 by have e1:=HT1.out;have e2:=HT2.out;have e3:=HT3.out;omega] at h;exact h
   go_upto_region 16 with fail;clear c23;obtain ⟨T4,hT4⟩:∃ T:Nat,T=T3+1:=⟨_,rfl⟩;rw [Az hT4];have HT4:=iH hT4;have hTb4:0<T4∧T4+5+m1 J*4≤1073741824:=by omega
   clear hT4;have c24:ws0.cell? ⟨g,J*10+4,none⟩=some (.int .i64 ((T4:Nat):Int)):=by have h:=(hB.out.cell (p:=⟨g,J*10+4,none⟩) (block_lt_of_cell D4.out)).trans D4.out;rw [show T0+2+m0 J+1=T4 by have e1:=HT1.out;have e2:=HT2.out;have e3:=HT3.out;have e4:=HT4.out;omega] at h;exact h
   go_upto_region 19 with fail;clear c24;obtain ⟨T5,hT5⟩:∃ T:Nat,T=T4+1:=⟨_,rfl⟩;rw [Az hT5];have HT5:=iH hT5;have hTb5:0<T5∧T5+4+m1 J*4≤1073741824:=by omega
   clear hT5;have c25:ws0.cell? ⟨g,J*10+5,none⟩=some (.bool (decide ((T5:Int).tmod 3=0))):=by have h:=(hB.out.cell (p:=⟨g,J*10+5,none⟩) (block_lt_of_cell D5.out)).trans D5.out;rw [show T0+2+m0 J+2=T5 by have e1:=HT1.out;have e2:=HT2.out;have e3:=HT3.out;have e4:=HT4.out;have e5:=HT5.out;omega] at h;exact h
   by_cases hp:(T5:Int).tmod 3=0
   ·rw [decide_eq_true hp] at c25
    go_upto_region 22 with fail;clear c25;obtain ⟨T6,hT6⟩:∃ T:Nat,T=T5+1:=⟨_,rfl⟩;rw [Az hT6];have HT6:=iH hT6;have hTb6:0<T6∧T6+3+m1 J*4≤1073741824:=by omega
    clear hT6;have c26:ws0.cell? ⟨g,J*10+6,none⟩=some (.int .i64 ((T6:Nat):Int)):=by have h:=(hB.out.cell (p:=⟨g,J*10+6,none⟩) (block_lt_of_cell D6.out)).trans D6.out;rw [show T0+2+m0 J+3=T6 by have e1:=HT1.out;have e2:=HT2.out;have e3:=HT3.out;have e4:=HT4.out;have e5:=HT5.out;have e6:=HT6.out;omega] at h;exact h
    go_upto_region 25 with fail;clear c26;obtain ⟨T7,hT7⟩:∃ T:Nat,T=T6+1:=⟨_,rfl⟩;rw [Az hT7];have HT7:=iH hT7;have hTb7:0<T7∧T7+2+m1 J*4≤1073741824:=by omega
    clear hT7;have c27:ws0.cell? ⟨g,J*10+7,none⟩=some (.int .i64 ((T7:Nat):Int)):=by have h:=(hB.out.cell (p:=⟨g,J*10+7,none⟩) (block_lt_of_cell D7.out)).trans D7.out;rw [show T0+2+m0 J+4=T7 by have e1:=HT1.out;have e2:=HT2.out;have e3:=HT3.out;have e4:=HT4.out;have e5:=HT5.out;have e6:=HT6.out;have e7:=HT7.out;omega] at h;exact h
    go_upto_region 28 with fail;clear c27;obtain ⟨T8,hT8⟩:∃ T:Nat,T=T7+1:=⟨_,rfl⟩;rw [Az hT8];have HT8:=iH hT8;have hTb8:0<T8∧T8+1+m1 J*4≤1073741824:=by omega
    clear hT8;have c28:ws0.cell? ⟨g,J*10+8,none⟩=some (.int .i64 ((T8:Nat):Int)):=by have h:=(hB.out.cell (p:=⟨g,J*10+8,none⟩) (block_lt_of_cell D8.out)).trans D8.out;rw [show T0+2+m0 J+5=T8 by have e1:=HT1.out;have e2:=HT2.out;have e3:=HT3.out;have e4:=HT4.out;have e5:=HT5.out;have e6:=HT6.out;have e7:=HT7.out;have e8:=HT8.out;omega] at h;exact h
    go_upto_region 31 with fail;clear c28;obtain ⟨T9,hT9⟩:∃ T:Nat,T=T8+1:=⟨_,rfl⟩;rw [Az hT9];have HT9:=iH hT9;have hTb9:0<T9∧T9+0+m1 J*4≤1073741824:=by omega
    clear hT9;have c2:ws0.cell? ⟨g,J*10+9,none⟩=some (.slice (e1 J) (m1 J) (c1 J)):=(hB.out.cell (p:=⟨g,J*10+9,none⟩) (block_lt_of_cell (HC1.out J hlt))).trans (HC1.out J hlt);have HS2:Hid (Mk ws0 (LCt (e1 J) (m1 J)) T9):=by have h:=HG3.out;rw [show T0+2+m0 J+6=T9 by have e1:=HT1.out;have e2:=HT2.out;have e3:=HT3.out;have e4:=HT4.out;have e5:=HT5.out;have e6:=HT6.out;have e7:=HT7.out;have e8:=HT8.out;have e9:=HT9.out;omega] at h;exact fun j b o c hj=>(hB.out.cell (p:=⟨b,o,none⟩) (block_lt_of_cell (h j b o c hj))).trans (h j b o c hj)
    go_wp2_with fail;refine (Ic hej1 (c1 J) T9 HS2.out (by omega) (by omega)).mono ?_;rintro e ws1 ⟨rfl,hb⟩;replace hB:=iH (hB.out.trans (hb.mono hB.out.size));clear hb c2 HS2;obtain ⟨T10,hT10⟩:∃ T:Nat,T=T9+m1 J*4:=⟨_,rfl⟩;rw [← hT10];have HT10:=iH hT10;have hTb10:0<T10∧T10+0≤1073741824:=by omega
    clear hT10;go_wp2_with fail;go_roundw
    case rel=>exact ⟨J+1,by omega,by go_num,by have e0:=HT0.out;have e99:=HLJ.out;have e1:=HT1.out;have e2:=HT2.out;have e3:=HT3.out;have e4:=HT4.out;have e5:=HT5.out;have e6:=HT6.out;have e7:=HT7.out;have e8:=HT8.out;have e9:=HT9.out;have e10:=HT10.out;congr 1;omega,hB⟩
    case measure=>simp [intOf];omega
   ·rw [decide_eq_false hp] at c25
    have hp4:((T5:Int) % 3 == 0)=false:=by rw [Int.tmod_eq_emod_of_nonneg (by omega)] at hp;simpa using hp
    go_upto_region 22 with fail;clear c25;obtain ⟨T6,hT6⟩:∃ T:Nat,T=T5+1:=⟨_,rfl⟩;rw [Az hT6];have HT6:=iH hT6;have hTb6:0<T6∧T6+3+m1 J*4≤1073741824:=by omega
    clear hT6;have c26:ws0.cell? ⟨g,J*10+6,none⟩=some (.int .i64 ((T6:Nat):Int)):=by have h:=(hB.out.cell (p:=⟨g,J*10+6,none⟩) (block_lt_of_cell D6.out)).trans D6.out;rw [show T0+2+m0 J+3=T6 by have e1:=HT1.out;have e2:=HT2.out;have e3:=HT3.out;have e4:=HT4.out;have e5:=HT5.out;have e6:=HT6.out;omega] at h;exact h
    go_upto_region 25 with fail;clear c26;obtain ⟨T7,hT7⟩:∃ T:Nat,T=T6+1:=⟨_,rfl⟩;rw [Az hT7];have HT7:=iH hT7;have hTb7:0<T7∧T7+2+m1 J*4≤1073741824:=by omega
    clear hT7;have c27:ws0.cell? ⟨g,J*10+7,none⟩=some (.int .i64 ((T7:Nat):Int)):=by have h:=(hB.out.cell (p:=⟨g,J*10+7,none⟩) (block_lt_of_cell D7.out)).trans D7.out;rw [show T0+2+m0 J+4=T7 by have e1:=HT1.out;have e2:=HT2.out;have e3:=HT3.out;have e4:=HT4.out;have e5:=HT5.out;have e6:=HT6.out;have e7:=HT7.out;omega] at h;exact h
    go_upto_region 28 with fail;clear c27;obtain ⟨T8,hT8⟩:∃ T:Nat,T=T7+1:=⟨_,rfl⟩;rw [Az hT8];have HT8:=iH hT8;have hTb8:0<T8∧T8+1+m1 J*4≤1073741824:=by omega
    clear hT8;have c28:ws0.cell? ⟨g,J*10+8,none⟩=some (.int .i64 ((T8:Nat):Int)):=by have h:=(hB.out.cell (p:=⟨g,J*10+8,none⟩) (block_lt_of_cell D8.out)).trans D8.out;rw [show T0+2+m0 J+5=T8 by have e1:=HT1.out;have e2:=HT2.out;have e3:=HT3.out;have e4:=HT4.out;have e5:=HT5.out;have e6:=HT6.out;have e7:=HT7.out;have e8:=HT8.out;omega] at h;exact h
    go_upto_region 31 with fail;clear c28;obtain ⟨T9,hT9⟩:∃ T:Nat,T=T8+1:=⟨_,rfl⟩;rw [Az hT9];have HT9:=iH hT9;have hTb9:0<T9∧T9+0+m1 J*4≤1073741824:=by omega
    clear hT9;have c2:ws0.cell? ⟨g,J*10+9,none⟩=some (.slice (e1 J) (m1 J) (c1 J)):=(hB.out.cell (p:=⟨g,J*10+9,none⟩) (block_lt_of_cell (HC1.out J hlt))).trans (HC1.out J hlt);have HS2:Hid (Mk ws0 (LCt (e1 J) (m1 J)) T9):=by have h:=HG3.out;rw [show T0+2+m0 J+6=T9 by have e1:=HT1.out;have e2:=HT2.out;have e3:=HT3.out;have e4:=HT4.out;have e5:=HT5.out;have e6:=HT6.out;have e7:=HT7.out;have e8:=HT8.out;have e9:=HT9.out;omega] at h;exact fun j b o c hj=>(hB.out.cell (p:=⟨b,o,none⟩) (block_lt_of_cell (h j b o c hj))).trans (h j b o c hj)
    go_wp2_with fail;refine (Ic hej1 (c1 J) T9 HS2.out (by omega) (by omega)).mono ?_;rintro e ws1 ⟨rfl,hb⟩;replace hB:=iH (hB.out.trans (hb.mono hB.out.size));clear hb c2 HS2;obtain ⟨T10,hT10⟩:∃ T:Nat,T=T9+m1 J*4:=⟨_,rfl⟩;rw [← hT10];have HT10:=iH hT10;have hTb10:0<T10∧T10+0≤1073741824:=by omega
    clear hT10;go_wp2_with fail;go_roundw
    case rel=>exact ⟨J+1,by omega,by go_num,by have e0:=HT0.out;have e99:=HLJ.out;have e1:=HT1.out;have e2:=HT2.out;have e3:=HT3.out;have e4:=HT4.out;have e5:=HT5.out;have e6:=HT6.out;have e7:=HT7.out;have e8:=HT8.out;have e9:=HT9.out;have e10:=HT10.out;congr 1;omega,hB⟩
    case measure=>simp [intOf];omega
  ·have hje:J=N:=by omega
   subst hje;go_wp2_with fail;go_ret;exact ⟨rfl,hB.out⟩
end Go.Proofs.YtpeajnkkdioflaaGreat
