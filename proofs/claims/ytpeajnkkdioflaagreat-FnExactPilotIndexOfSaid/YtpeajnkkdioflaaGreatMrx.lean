import Derived.Test.YtpeajnkkdioflaaGreatJ5
set_option maxHeartbeats 4000000
namespace Go.Proofs.YtpeajnkkdioflaaGreat
set_option maxRecDepth 100000
open Go.RowKit
def SubW (W:World) (g lo hi:Nat) (tag:Nat→Nat) (t:Nat) (a:Option Addr) (n m:Nat):Prop:=n=0∨∃ b,a=some ⟨b,0,none⟩∧b≠g∧b<W.heap.size∧EnW W b 0 (n*m)∧tag b=t∧lo≤b∧b<hi
theorem kI (T:Nat):((T:Int) % 3 == 0)=b3W T:=by
 unfold b3W;rw [Int.tmod_eq_emod_of_nonneg (by omega)];by_cases h:(T:Int) % 3=0 <;> simp [h]
theorem Sc {a:Option Addr} {n x p c:Nat} (h:(x,p,c)∈LS a n):∃ ad,a=some ad∧0<n∧x=ad.block:=by
 cases a with
 | none=>cases h
 | some ad =>
  have h:(x,p,c)∈List.map (fun t=>(ad.block,ad.off+t,0)) (List.range n):=h;simp at h;obtain ⟨t,ht,rfl,rfl,rfl⟩:=h;exact ⟨ad,rfl,by omega,rfl⟩
def LCb (g:Nat):Nat→List (Nat×Nat×Nat)
 | 0=>[]
 | J+1=>LCb g J++([(g,J*4,0),(g,J*4+1,1),(g,J*4+2,1),(g,J*4+3,1)])
theorem Oe (g:Nat) (J:Nat):∀ N,J≤N→(LCb g J).length≤(LCb g N).length
 | 0,h=>by rw [show J=0 by omega];exact Nat.le_refl _
 | N+1,h=>by
  by_cases e:J=N+1
  ·rw [e];exact Nat.le_refl _
  ·have:=Oe g J N (by omega)
   simp only [LCb,List.length_append];omega
theorem Hq (g:Nat):∀ J,(LCb g J).length=J*4
 | 0=>rfl
 | J+1=>by
  rw [LCb,List.length_append,Hq g J];simp only [List.length_cons,List.length_nil];omega
theorem Lu {g x p c:Nat}:∀ {J:Nat},(x,p,c)∈LCb g J→x=g∧p<J*4
 | 0,h=>by cases h
 | J+1,h=>by
  rw [LCb,List.mem_append] at h;rcases h with h | h
  ·have:=Lu h
   omega
  ·simp at h
   omega
def LCt (a:Option Addr) (n:Nat):List (Nat×Nat×Nat):=match a with
 | some ad=>LCb ad.block n
 | none=>[]
theorem Lv {a:Option Addr} {n x p c:Nat} (h:(x,p,c)∈LCt a n):∃ ad,a=some ad∧0<n∧x=ad.block:=by
 cases a with
 | none=>cases h
 | some ad =>
  have h:=Lu (show (x,p,c)∈LCb ad.block n from h);exact ⟨ad,rfl,by omega,h.1⟩
structure EnZ (w:World) (g N:Nat):Prop where
 lt:g<w.heap.size
 row:∀ p,p<N*4→∃ u,w.cell? ⟨g,p,none⟩=some u
 rfz:∀ p,w.frozen? ⟨g,p,none⟩=false
theorem Lt (g N:Nat) (cap k:Nat) (w:World) (hA:EnW w g 0 (N*4)) (hb0:g<w.heap.size) (h0:0<k) (h1:k+N*4≤1073741824) :
  Calls Tryz.prog 35 #[.slice (some ⟨g,0,none⟩) N cap,.int .i64 k] w fun e w'=>e=.returned (.int .i64 ((k+N*4:Nat):Int))∧Wr (LCb g N) w w'∧Mk w' (LCb g N) k:=by
 have HA:Hid (EnZ w g N):=⟨hb0,fun p hp=>by have h9:=hA.1 p hp;rwa [Nat.zero_add] at h9,hA.2⟩;have hN:N≤1073741824:=by omega
 have H1:Hid (k+(LCb g N).length≤1073741824):=by show _≤_;rw [Hq];exact h1
 clear hA h1;go_enter Tryz.func35,Tryz.ntmps35;go_wp2_with fail;go_loopw [1,5] (fun v i wr=>∃ J:Nat,J≤N∧i=.int .i64 J∧v=.int .i64 ((k+(LCb g J).length:Nat):Int)∧Hid (Wr (LCb g J) w wr)∧Hid (Mk wr (LCb g J) k)) (fun _ i _=>N - (intOf i).toNat)
 case atStart=>exact ⟨0,Nat.zero_le _,rfl,rfl,Wr.refl _,Mk.nil _ _⟩
 case round =>
  obtain ⟨J,hj,rfl,rfl,hW,hM⟩:=hrel;by_cases hlt:J<N
  ·have i0:(0:Int)≤(J:Int):=by omega
   have i1:(J:Int)<(N:Int):=by omega
   obtain ⟨T0,hT0⟩:∃ T:Nat,T=k+(LCb g J).length:=⟨_,rfl⟩;rw [← hT0];have HLJ:Hid ((LCb g (J+1)).length=(LCb g J).length+4):=by show _=_;simp only [LCb,List.length_append,List.length_cons,List.length_nil]
   have hTb:0<T0∧T0+4≤1073741824:=by have h8:=Oe g (J+1) N (by omega);have h9:=HLJ.out;have h7:=H1.out;omega
   have HT0:=iH hT0;clear hT0;have HNI:Hid (∀ i c,(g,J*4+i,c)∉LCb g J):=fun i c hm=>by have:=Lu hm;omega
   go_wp2_with fail;refine (Bx T0 _ (by omega) (by omega)).mono ?_;rintro e wa0 ⟨rfl,hb⟩;replace hW:=iH (hW.out.below hb);replace hM:=iH (hM.out.below hb);clear hb;obtain ⟨u0,d0⟩:∃ u,wa0.cell? ⟨g,J*4,none⟩=some u:=by obtain ⟨u,hu⟩:=HA.out.row (J*4) (by omega);exact hW.out.there g _ u hu
   have g0:wa0.frozen? ⟨g,J*4,none⟩=false:=(hW.out.frozen g _ HA.out.lt).trans (HA.out.rfz _);have hM0:=iH (hM.out.set (b:=g) (o:=J*4) (c:=0) (v:=.string (Dc T0)) (fun c' hm=>by have n1:=HNI.out 0 c';exact n1 hm) d0 (by show _=mvK 0 _;rw [show k+List.length _=T0 by have e0:=HT0.out;omega];rfl));have hW0:=iH (hW.out.set g (J*4) 0 (.string (Dc T0)));go_upto_region 5 with fail;clear d0 g0 hM hW;have hM:=hM0;have hW:=hW0;clear hM0 hW0;generalize wa0.setCell ⟨g,J*4,none⟩ (.string (Dc T0))=wb0 at *;go_upto_region 6 with fail;obtain ⟨T1,hT1⟩:∃ T:Nat,T=T0+1:=⟨_,rfl⟩;rw [Az hT1];have HT1:=iH hT1;have hTb1:0<T1∧T1+3≤1073741824:=by omega
   clear hT1;obtain ⟨u1,d1⟩:∃ u,wb0.cell? ⟨g,J*4+1,none⟩=some u:=by obtain ⟨u,hu⟩:=HA.out.row (J*4+1) (by omega);exact hW.out.there g _ u hu
   have g1:wb0.frozen? ⟨g,J*4+1,none⟩=false:=(hW.out.frozen g _ HA.out.lt).trans (HA.out.rfz _);have hM1:=iH (hM.out.set (b:=g) (o:=J*4+1) (c:=1) (v:=.int .i64 ((T1:Nat):Int)) (fun c' hm=>by have n1:=HNI.out 1 c';simp [n1] at hm) d1 (by show _=mvK 1 _;rw [show k+List.length _=T1 by have e0:=HT0.out;have e1:=HT1.out;simp only [List.length_append,List.length_cons,List.length_nil];omega];rfl));have hW1:=iH (hW.out.set g (J*4+1) 1 (.int .i64 ((T1:Nat):Int)));go_upto_region 7 with fail;clear d1 g1 hM hW;have hM:=hM1;have hW:=hW1;clear hM1 hW1;generalize wb0.setCell ⟨g,J*4+1,none⟩ (.int .i64 ((T1:Nat):Int))=wb1 at *;go_upto_region 8 with fail;obtain ⟨T2,hT2⟩:∃ T:Nat,T=T1+1:=⟨_,rfl⟩;rw [Az hT2];have HT2:=iH hT2;have hTb2:0<T2∧T2+2≤1073741824:=by omega
   clear hT2;obtain ⟨u2,d2⟩:∃ u,wb1.cell? ⟨g,J*4+2,none⟩=some u:=by obtain ⟨u,hu⟩:=HA.out.row (J*4+2) (by omega);exact hW.out.there g _ u hu
   have g2:wb1.frozen? ⟨g,J*4+2,none⟩=false:=(hW.out.frozen g _ HA.out.lt).trans (HA.out.rfz _);have hM2:=iH (hM.out.set (b:=g) (o:=J*4+2) (c:=1) (v:=.int .i64 ((T2:Nat):Int)) (fun c' hm=>by have n1:=HNI.out 2 c';simp [n1] at hm) d2 (by show _=mvK 1 _;rw [show k+List.length _=T2 by have e0:=HT0.out;have e1:=HT1.out;have e2:=HT2.out;simp only [List.length_append,List.length_cons,List.length_nil];omega];rfl));have hW2:=iH (hW.out.set g (J*4+2) 1 (.int .i64 ((T2:Nat):Int)));go_upto_region 9 with fail;clear d2 g2 hM hW;have hM:=hM2;have hW:=hW2;clear hM2 hW2;generalize wb1.setCell ⟨g,J*4+2,none⟩ (.int .i64 ((T2:Nat):Int))=wb2 at *;go_upto_region 10 with fail;obtain ⟨T3,hT3⟩:∃ T:Nat,T=T2+1:=⟨_,rfl⟩;rw [Az hT3];have HT3:=iH hT3;have hTb3:0<T3∧T3+1≤1073741824:=by omega
   clear hT3;obtain ⟨u3,d3⟩:∃ u,wb2.cell? ⟨g,J*4+3,none⟩=some u:=by obtain ⟨u,hu⟩:=HA.out.row (J*4+3) (by omega);exact hW.out.there g _ u hu
   have g3:wb2.frozen? ⟨g,J*4+3,none⟩=false:=(hW.out.frozen g _ HA.out.lt).trans (HA.out.rfz _);have hM3:=iH (hM.out.set (b:=g) (o:=J*4+3) (c:=1) (v:=.int .i64 ((T3:Nat):Int)) (fun c' hm=>by have n1:=HNI.out 3 c';simp [n1] at hm) d3 (by show _=mvK 1 _;rw [show k+List.length _=T3 by have e0:=HT0.out;have e1:=HT1.out;have e2:=HT2.out;have e3:=HT3.out;simp only [List.length_append,List.length_cons,List.length_nil];omega];rfl));have hW3:=iH (hW.out.set g (J*4+3) 1 (.int .i64 ((T3:Nat):Int)));have HMf:Hid (Mk (wb2.setCell ⟨g,J*4+3,none⟩ (.int .i64 ((T3:Nat):Int))) (LCb g (J+1)) k):=by have h:=hM3.out;show Mk _ _ _;simpa [LCb] using h
   have HWf:Hid (Wr (LCb g (J+1)) w (wb2.setCell ⟨g,J*4+3,none⟩ (.int .i64 ((T3:Nat):Int)))):=by have h:=hW3.out;show Wr _ _ _;simpa [LCb] using h
   clear hM hW hM3 hW3;go_wp2_with fail;go_roundw
   case rel=>exact ⟨J+1,by omega,by go_num,by have e99:=HLJ.out;have e0:=HT0.out;have e1:=HT1.out;have e2:=HT2.out;have e3:=HT3.out;congr 1;omega,HWf,HMf⟩
   case measure=>simp [intOf];omega
  ·have hje:J=N:=by omega
   subst hje;go_wp2_with fail;go_ret;exact ⟨by rw [← Hq g J];rfl,hW.out,hM.out⟩
theorem Sk (a:Option Addr) (cap T:Nat) (w:World) :
  Calls Tryz.prog 71 #[.slice a 0 cap,.int .i64 (T:Int)] w fun e w'=>e=.returned (.int .i64 (T:Int))∧w'=w:=by
 go_enter Tryz.func71,Tryz.ntmps71;go_wp2_with fail;go_loopw [1,5] (fun v i wr=>v=.int .i64 (T:Int)∧i=.int .i64 0∧wr=w) (fun _ _ _=>0)
 case atStart=>exact ⟨rfl,rfl,rfl⟩
 case round =>
  obtain ⟨rfl,rfl,rfl⟩:=hrel;go_wp2_with fail;go_ret;exact ⟨rfl,rfl⟩
theorem Ky (a:Option Addr) (cap T:Nat) (w:World) :
  Calls Tryz.prog 35 #[.slice a 0 cap,.int .i64 (T:Int)] w fun e w'=>e=.returned (.int .i64 (T:Int))∧w'=w:=by
 go_enter Tryz.func35,Tryz.ntmps35;go_wp2_with fail;go_loopw [1,5] (fun v i wr=>v=.int .i64 (T:Int)∧i=.int .i64 0∧wr=w) (fun _ _ _=>0)
 case atStart=>exact ⟨rfl,rfl,rfl⟩
 case round =>
  obtain ⟨rfl,rfl,rfl⟩:=hrel;go_wp2_with fail;go_ret;exact ⟨rfl,rfl⟩
theorem Vm {W:World} {g lo hi t:Nat} {tag:Nat→Nat} {a:Option Addr} {n:Nat} (h:SubW W g lo hi tag t a n 1):(LS a n).length=n:=by
 rcases h with e | ⟨b,e,_⟩
 ·rw [e];cases a <;> rfl
 ·rw [e];exact Yf _ _ _
theorem Uz {W w:World} {g lo hi t:Nat} {tag:Nat→Nat} {a:Option Addr} {n:Nat} {L:List (Nat×Nat×Nat)} {k:Nat} (h:SubW W g lo hi tag t a n 1) (cap:Nat) (hW:Wr L W w) (hM:Mk w L k) (hf:∀ b p c,0<n→a=some ⟨b,0,none⟩→(b,p,c)∈L→False) (T:Nat) (hT:T=k+L.length) (h0:0<T) (h1:T+n≤1073741824) :
  Calls Tryz.prog 71 #[.slice a n cap,.int .i64 (T:Int)] w fun e w'=>e=.returned (.int .i64 ((T+n:Nat):Int))∧Wr (L++LS a n) W w'∧Mk w' (L++LS a n) k:=by
 by_cases hz:n=0
 ·rw [hz,show LS a 0=[] by cases a <;> rfl,List.append_nil]
  refine (Sk a cap T w).mono ?_;rintro e' w' ⟨rfl,rfl⟩;exact ⟨rfl,hW,hM⟩
 ·rcases h with e | ⟨b,e,hne,hbl,hE,_⟩
  ·exact absurd e hz
  ·rw [e]
   refine (Tk b 0 n cap T w (by have h9:=hE.wr hW hbl;simpa using h9) (Nat.lt_of_lt_of_le hbl hW.size) h0 h1).mono ?_;rintro e' w' ⟨rfl,hW2,hM2⟩;refine ⟨rfl,hW.trans hW2,Mk.app (hM.wr hW2 (fun x p c c' h8 h9=>?_)) (by rw [← hT];exact hM2)⟩;have:=dM h9;rw [this.1] at h8;exact hf b p c (by omega) e h8
theorem Jc {W:World} {g lo hi t:Nat} {tag:Nat→Nat} {a:Option Addr} {n:Nat} (h:SubW W g lo hi tag t a n 4):(LCt a n).length=n*4:=by
 rcases h with e | ⟨b,e,_⟩
 ·rw [e];cases a <;> rfl
 ·rw [e];exact Hq _ _
theorem Ms {W w:World} {g lo hi t:Nat} {tag:Nat→Nat} {a:Option Addr} {n:Nat} {L:List (Nat×Nat×Nat)} {k:Nat} (h:SubW W g lo hi tag t a n 4) (cap:Nat) (hW:Wr L W w) (hM:Mk w L k) (hf:∀ b p c,0<n→a=some ⟨b,0,none⟩→(b,p,c)∈L→False) (T:Nat) (hT:T=k+L.length) (h0:0<T) (h1:T+n*4≤1073741824) :
  Calls Tryz.prog 35 #[.slice a n cap,.int .i64 (T:Int)] w fun e w'=>e=.returned (.int .i64 ((T+n*4:Nat):Int))∧Wr (L++LCt a n) W w'∧Mk w' (L++LCt a n) k:=by
 by_cases hz:n=0
 ·rw [hz,show LCt a 0=[] by cases a <;> rfl,List.append_nil]
  refine (Ky a cap T w).mono ?_;rintro e' w' ⟨rfl,rfl⟩;exact ⟨rfl,hW,hM⟩
 ·rcases h with e | ⟨b,e,hne,hbl,hE,_⟩
  ·exact absurd e hz
  ·rw [e]
   refine (Lt b n cap T w (by have h9:=hE.wr hW hbl;simpa using h9) (Nat.lt_of_lt_of_le hbl hW.size) h0 h1).mono ?_;rintro e' w' ⟨rfl,hW2,hM2⟩;refine ⟨rfl,hW.trans hW2,Mk.app (hM.wr hW2 (fun x p c c' h8 h9=>?_)) (by rw [← hT];exact hM2)⟩;have:=Lu h9;rw [this.1] at h8;exact hf b p c (by omega) e h8
def LZn (g:Nat) (e0:Nat→Option Addr) (m0:Nat→Nat):Nat→List (Nat×Nat×Nat)
 | 0=>[]
 | J+1=>LZn g e0 m0 J++([(g,J*2,0)]++(LCt (e0 J) (m0 J)))
theorem Ou (g:Nat) (e0:Nat→Option Addr) (m0:Nat→Nat) (J:Nat):∀ N,J≤N→(LZn g e0 m0 J).length≤(LZn g e0 m0 N).length
 | 0,h=>by rw [show J=0 by omega];exact Nat.le_refl _
 | N+1,h=>by
  by_cases e:J=N+1
  ·rw [e];exact Nat.le_refl _
  ·have:=Ou g e0 m0 J N (by omega)
   simp only [LZn,List.length_append];omega
structure AnZnr (W:World) (g N lo hi:Nat) (tag:Nat→Nat) (e0:Nat→Option Addr) (m0 c0:Nat→Nat):Prop where
 lt:g<W.heap.size
 glo:lo≤g
 ghi:g<hi
 row:∀ p,p<N*2→∃ u,W.cell? ⟨g,p,none⟩=some u
 rfz:∀ p,W.frozen? ⟨g,p,none⟩=false
 sl0:∀ j,j<N→W.cell? ⟨g,j*2+1,none⟩=some (.slice (e0 j) (m0 j) (c0 j))
 en0:∀ j,j<N→SubW W g lo hi tag (2*j) (e0 j) (m0 j) 4
theorem Pk {W:World} {g N lo hi:Nat} {tag:Nat→Nat} {e0:Nat→Option Addr} {m0 c0:Nat→Nat} (h:AnZnr W g N lo hi tag e0 m0 c0) {x p c:Nat}:∀ {J:Nat},J≤N→(x,p,c)∈LZn g e0 m0 J→(x=g∧p<J*2∧(∀ j,p≠j*2+1))∨(x≠g∧tag x<2*J∧lo≤x∧x<hi)
 | 0,_,hm=>by cases hm
 | J+1,hJ,hm=>by
  simp only [LZn,List.mem_append] at hm;rcases hm with hm | hm | hm
  ·rcases Pk h (by omega) hm with ⟨h1,h2,h3⟩ | ⟨h1,h2,h3⟩
   ·exact .inl ⟨h1,by omega,h3⟩
   ·exact .inr ⟨h1,by omega,h3⟩
  ·simp at hm
   exact .inl ⟨by omega,by omega,fun j=>by omega⟩
  ·obtain ⟨ad,h1,h2,h3⟩:=Lv hm
   rcases h.en0 J (by omega) with e | ⟨b,e,hne,_,_,ht,h8,h9⟩
   ·omega
   ·rw [e] at h1
    cases h1
    have h3:x=b:=h3;subst h3;exact .inr ⟨hne,by omega,h8,h9⟩
theorem jI {W:World} {g N lo hi:Nat} {tag:Nat→Nat} {e0:Nat→Option Addr} {m0 c0:Nat→Nat} (h:AnZnr W g N lo hi tag e0 m0 c0) {J:Nat} (hJ:J≤N) (i c:Nat):(g,J*2+i,c)∉LZn g e0 m0 J:=fun hm=>by
 rcases Pk h hJ hm with ⟨_,h2,_⟩ | ⟨h1,_⟩
 ·omega
 ·exact h1 rfl
theorem Rf {W:World} {g N lo hi:Nat} {tag:Nat→Nat} {e0:Nat→Option Addr} {m0 c0:Nat→Nat} (h:AnZnr W g N lo hi tag e0 m0 c0) {J:Nat} (hJ:J≤N) (j c:Nat):(g,j*2+1,c)∉LZn g e0 m0 J:=fun hm=>by
 rcases Pk h hJ hm with ⟨_,_,h3⟩ | ⟨h1,_⟩
 ·exact h3 j rfl
 ·exact h1 rfl
theorem dH {W:World} {g N lo hi:Nat} {tag:Nat→Nat} {e0:Nat→Option Addr} {m0 c0:Nat→Nat} (h:AnZnr W g N lo hi tag e0 m0 c0) {J:Nat} (hJ:J<N) (p c:Nat):(g,p,c)∉LCt (e0 J) (m0 J):=fun hm=>by
 obtain ⟨ad,h1,h2,h3⟩:=Lv hm;rcases h.en0 J hJ with e | ⟨b,e,hne,_⟩
 ·omega
 ·rw [e] at h1
  cases h1
  exact hne h3.symm
theorem dS {W:World} {g N lo hi:Nat} {tag:Nat→Nat} {e0:Nat→Option Addr} {m0 c0:Nat→Nat} (h:AnZnr W g N lo hi tag e0 m0 c0) {J b:Nat} (hJ:J<N) (hn:0<m0 J) (he:e0 J=some ⟨b,0,none⟩):(∀ p c,(b,p,c)∉LZn g e0 m0 J)∧b≠g:=by
 rcases h.en0 J hJ with e | ⟨b',e,hne,_,_,ht,_⟩
 ·omega
 ·rw [e] at he
  cases he
  refine ⟨fun p c hm=>?_,hne⟩;rcases Pk h (by omega) hm with ⟨h1,_⟩ | ⟨_,h2,_⟩
  ·exact hne h1
  ·omega
theorem Sq (g N:Nat) {lo hi:Nat} {tag:Nat→Nat} (e0:Nat→Option Addr) (m0 c0:Nat→Nat) (cap k:Nat) (w:World) (hA:AnZnr w g N lo hi tag e0 m0 c0) (hN:N≤1048576) (h0:0<k) (h1:k+(LZn g e0 m0 N).length≤1073741824) :
  Calls Tryz.prog 34 #[.slice (some ⟨g,0,none⟩) N cap,.int .i64 k] w fun e w'=>e=.returned (.int .i64 ((k+(LZn g e0 m0 N).length:Nat):Int))∧Wr (LZn g e0 m0 N) w w'∧Mk w' (LZn g e0 m0 N) k:=by
 have HA:=iH hA;have H1:Hid (k+(LZn g e0 m0 N).length≤1073741824):=h1;clear hA h1;go_enter Tryz.func34,Tryz.ntmps34;go_wp2_with fail;go_loopw [1,5] (fun v i wr=>∃ J:Nat,J≤N∧i=.int .i64 J∧v=.int .i64 ((k+(LZn g e0 m0 J).length:Nat):Int)∧Hid (Wr (LZn g e0 m0 J) w wr)∧Hid (Mk wr (LZn g e0 m0 J) k)) (fun _ i _=>N - (intOf i).toNat)
 case atStart=>exact ⟨0,Nat.zero_le _,rfl,rfl,Wr.refl _,Mk.nil _ _⟩
 case round =>
  obtain ⟨J,hj,rfl,rfl,hW,hM⟩:=hrel;by_cases hlt:J<N
  ·have i0:(0:Int)≤(J:Int):=by omega
   have i1:(J:Int)<(N:Int):=by omega
   obtain ⟨T0,hT0⟩:∃ T:Nat,T=k+(LZn g e0 m0 J).length:=⟨_,rfl⟩;rw [← hT0];have HS0:=iH (Jc (HA.out.en0 J hlt));have HLJ:Hid ((LZn g e0 m0 (J+1)).length=(LZn g e0 m0 J).length+1+m0 J*4):=by show _=_;have h9:=HS0.out;simp only [LZn,List.length_append,List.length_cons,List.length_nil];omega
   have hTb:0<T0∧T0+1+m0 J*4≤1073741824:=by have h8:=Ou g e0 m0 (J+1) N (by omega);have h9:=HLJ.out;have h7:=H1.out;omega
   have HT0:=iH hT0;clear hT0;have HNI:Hid (∀ i c,(g,J*2+i,c)∉LZn g e0 m0 J):=jI HA.out (by omega);have HN0:Hid (∀ p c,(g,p,c)∉LCt (e0 J) (m0 J)):=dH HA.out hlt;go_wp2_with fail;refine (Bx T0 _ (by omega) (by omega)).mono ?_;rintro e wa0 ⟨rfl,hb⟩;replace hW:=iH (hW.out.below hb);replace hM:=iH (hM.out.below hb);clear hb;obtain ⟨u0,d0⟩:∃ u,wa0.cell? ⟨g,J*2,none⟩=some u:=by obtain ⟨u,hu⟩:=HA.out.row (J*2) (by omega);exact hW.out.there g _ u hu
   have g0:wa0.frozen? ⟨g,J*2,none⟩=false:=(hW.out.frozen g _ HA.out.lt).trans (HA.out.rfz _);have hM0:=iH (hM.out.set (b:=g) (o:=J*2) (c:=0) (v:=.string (Dc T0)) (fun c' hm=>by have n1:=HNI.out 0 c';exact n1 hm) d0 (by show _=mvK 0 _;rw [show k+List.length _=T0 by have e0:=HT0.out;omega];rfl));have hW0:=iH (hW.out.set g (J*2) 0 (.string (Dc T0)));go_upto_region 5 with fail;clear d0 g0 hM hW;have hM:=hM0;have hW:=hW0;clear hM0 hW0;generalize wa0.setCell ⟨g,J*2,none⟩ (.string (Dc T0))=wb0 at *;go_upto_region 6 with fail;obtain ⟨T1,hT1⟩:∃ T:Nat,T=T0+1:=⟨_,rfl⟩;rw [Az hT1];have HT1:=iH hT1;have hTb1:0<T1∧T1+0+m0 J*4≤1073741824:=by omega
   clear hT1;have c2:wb0.cell? ⟨g,J*2+1,none⟩=some (.slice (e0 J) (m0 J) (c0 J)):=(hW.out.cell g _ HA.out.lt (fun c hm=>by have n1:=Rf HA.out (J:=J) (by omega) J c;simp [n1] at hm)).trans (HA.out.sl0 J hlt);go_wp2_with fail;refine (Ms (HA.out.en0 J hlt) (c0 J) hW.out hM.out (fun b p c hn he hm=>by have hf:=dS HA.out hlt hn he;have n1:=hf.1 p c;have n2:=hf.2;simp [n1,n2] at hm) T1 (by have e0:=HT0.out;have e1:=HT1.out;simp only [List.length_append,List.length_cons,List.length_nil];omega) (by omega) (by omega)).mono ?_;rintro e ws0 ⟨rfl,hW5,hM5⟩;replace hW:=iH hW5;replace hM:=iH hM5;clear hW5 hM5 c2;obtain ⟨T2,hT2⟩:∃ T:Nat,T=T1+m0 J*4:=⟨_,rfl⟩;rw [← hT2];have HT2:=iH hT2;have hTb2:0<T2∧T2+0≤1073741824:=by omega
   clear hT2;have HMf:Hid (Mk ws0 (LZn g e0 m0 (J+1)) k):=by have h:=hM.out;show Mk _ _ _;simpa [LZn] using h
   have HWf:Hid (Wr (LZn g e0 m0 (J+1)) w ws0):=by have h:=hW.out;show Wr _ _ _;simpa [LZn] using h
   clear hM hW;go_wp2_with fail;go_roundw
   case rel=>exact ⟨J+1,by omega,by go_num,by have e99:=HLJ.out;have e0:=HT0.out;have e1:=HT1.out;have e2:=HT2.out;congr 1;omega,HWf,HMf⟩
   case measure=>simp [intOf];omega
  ·have hje:J=N:=by omega
   subst hje;go_wp2_with fail;go_ret;exact ⟨rfl,hW.out,hM.out⟩
def LRw (g:Nat) (e0:Nat→Option Addr) (m0:Nat→Nat) (e1:Nat→Option Addr) (m1:Nat→Nat):Nat→List (Nat×Nat×Nat)
 | 0=>[]
 | J+1=>LRw g e0 m0 e1 m1 J++([(g,J*10,0),(g,J*10+1,0)]++(LS (e0 J) (m0 J)++([(g,J*10+3,1),(g,J*10+4,1),(g,J*10+5,2),(g,J*10+6,1),(g,J*10+7,1),(g,J*10+8,1)]++(LCt (e1 J) (m1 J)))))
theorem Oj (g:Nat) (e0:Nat→Option Addr) (m0:Nat→Nat) (e1:Nat→Option Addr) (m1:Nat→Nat) (J:Nat):∀ N,J≤N→(LRw g e0 m0 e1 m1 J).length≤(LRw g e0 m0 e1 m1 N).length
 | 0,h=>by rw [show J=0 by omega];exact Nat.le_refl _
 | N+1,h=>by
  by_cases e:J=N+1
  ·rw [e];exact Nat.le_refl _
  ·have:=Oj g e0 m0 e1 m1 J N (by omega)
   simp only [LRw,List.length_append];omega
structure AnRwp (W:World) (g N lo hi:Nat) (tag:Nat→Nat) (e0:Nat→Option Addr) (m0 c0:Nat→Nat) (e1:Nat→Option Addr) (m1 c1:Nat→Nat):Prop where
 lt:g<W.heap.size
 glo:lo≤g
 ghi:g<hi
 row:∀ p,p<N*10→∃ u,W.cell? ⟨g,p,none⟩=some u
 rfz:∀ p,W.frozen? ⟨g,p,none⟩=false
 sl0:∀ j,j<N→W.cell? ⟨g,j*10+2,none⟩=some (.slice (e0 j) (m0 j) (c0 j))
 en0:∀ j,j<N→SubW W g lo hi tag (2*j) (e0 j) (m0 j) 1
 sl1:∀ j,j<N→W.cell? ⟨g,j*10+9,none⟩=some (.slice (e1 j) (m1 j) (c1 j))
 en1:∀ j,j<N→SubW W g lo hi tag (2*j+1) (e1 j) (m1 j) 4
theorem Ki {W:World} {g N lo hi:Nat} {tag:Nat→Nat} {e0:Nat→Option Addr} {m0 c0:Nat→Nat} {e1:Nat→Option Addr} {m1 c1:Nat→Nat} (h:AnRwp W g N lo hi tag e0 m0 c0 e1 m1 c1) {x p c:Nat}:∀ {J:Nat},J≤N→(x,p,c)∈LRw g e0 m0 e1 m1 J→(x=g∧p<J*10∧(∀ j,p≠j*10+2)∧(∀ j,p≠j*10+9))∨(x≠g∧tag x<2*J∧lo≤x∧x<hi)
 | 0,_,hm=>by cases hm
 | J+1,hJ,hm=>by
  simp only [LRw,List.mem_append] at hm;rcases hm with hm | hm | hm | hm | hm
  ·rcases Ki h (by omega) hm with ⟨h1,h2,h3⟩ | ⟨h1,h2,h3⟩
   ·exact .inl ⟨h1,by omega,h3⟩
   ·exact .inr ⟨h1,by omega,h3⟩
  ·simp at hm
   exact .inl ⟨by omega,by omega,fun j=>by omega,fun j=>by omega⟩
  ·obtain ⟨ad,h1,h2,h3⟩:=Sc hm
   rcases h.en0 J (by omega) with e | ⟨b,e,hne,_,_,ht,h8,h9⟩
   ·omega
   ·rw [e] at h1
    cases h1
    have h3:x=b:=h3;subst h3;exact .inr ⟨hne,by omega,h8,h9⟩
  ·simp at hm
   exact .inl ⟨by omega,by omega,fun j=>by omega,fun j=>by omega⟩
  ·obtain ⟨ad,h1,h2,h3⟩:=Lv hm
   rcases h.en1 J (by omega) with e | ⟨b,e,hne,_,_,ht,h8,h9⟩
   ·omega
   ·rw [e] at h1
    cases h1
    have h3:x=b:=h3;subst h3;exact .inr ⟨hne,by omega,h8,h9⟩
theorem iJ {W:World} {g N lo hi:Nat} {tag:Nat→Nat} {e0:Nat→Option Addr} {m0 c0:Nat→Nat} {e1:Nat→Option Addr} {m1 c1:Nat→Nat} (h:AnRwp W g N lo hi tag e0 m0 c0 e1 m1 c1) {J:Nat} (hJ:J≤N) (i c:Nat):(g,J*10+i,c)∉LRw g e0 m0 e1 m1 J:=fun hm=>by
 rcases Ki h hJ hm with ⟨_,h2,_⟩ | ⟨h1,_⟩
 ·omega
 ·exact h1 rfl
theorem Qi {W:World} {g N lo hi:Nat} {tag:Nat→Nat} {e0:Nat→Option Addr} {m0 c0:Nat→Nat} {e1:Nat→Option Addr} {m1 c1:Nat→Nat} (h:AnRwp W g N lo hi tag e0 m0 c0 e1 m1 c1) {J:Nat} (hJ:J≤N) (j c:Nat):(g,j*10+2,c)∉LRw g e0 m0 e1 m1 J:=fun hm=>by
 rcases Ki h hJ hm with ⟨_,_,h3⟩ | ⟨h1,_⟩
 ·exact h3.1 j rfl
 ·exact h1 rfl
theorem dL {W:World} {g N lo hi:Nat} {tag:Nat→Nat} {e0:Nat→Option Addr} {m0 c0:Nat→Nat} {e1:Nat→Option Addr} {m1 c1:Nat→Nat} (h:AnRwp W g N lo hi tag e0 m0 c0 e1 m1 c1) {J:Nat} (hJ:J<N) (p c:Nat):(g,p,c)∉LS (e0 J) (m0 J):=fun hm=>by
 obtain ⟨ad,h1,h2,h3⟩:=Sc hm;rcases h.en0 J hJ with e | ⟨b,e,hne,_⟩
 ·omega
 ·rw [e] at h1
  cases h1
  exact hne h3.symm
theorem fL {W:World} {g N lo hi:Nat} {tag:Nat→Nat} {e0:Nat→Option Addr} {m0 c0:Nat→Nat} {e1:Nat→Option Addr} {m1 c1:Nat→Nat} (h:AnRwp W g N lo hi tag e0 m0 c0 e1 m1 c1) {J b:Nat} (hJ:J<N) (hn:0<m0 J) (he:e0 J=some ⟨b,0,none⟩):(∀ p c,(b,p,c)∉LRw g e0 m0 e1 m1 J)∧b≠g:=by
 rcases h.en0 J hJ with e | ⟨b',e,hne,_,_,ht,_⟩
 ·omega
 ·rw [e] at he
  cases he
  refine ⟨fun p c hm=>?_,hne⟩;rcases Ki h (by omega) hm with ⟨h1,_⟩ | ⟨_,h2,_⟩
  ·exact hne h1
  ·omega
theorem Qy {W:World} {g N lo hi:Nat} {tag:Nat→Nat} {e0:Nat→Option Addr} {m0 c0:Nat→Nat} {e1:Nat→Option Addr} {m1 c1:Nat→Nat} (h:AnRwp W g N lo hi tag e0 m0 c0 e1 m1 c1) {J:Nat} (hJ:J≤N) (j c:Nat):(g,j*10+9,c)∉LRw g e0 m0 e1 m1 J:=fun hm=>by
 rcases Ki h hJ hm with ⟨_,_,h3⟩ | ⟨h1,_⟩
 ·exact h3.2 j rfl
 ·exact h1 rfl
theorem dD {W:World} {g N lo hi:Nat} {tag:Nat→Nat} {e0:Nat→Option Addr} {m0 c0:Nat→Nat} {e1:Nat→Option Addr} {m1 c1:Nat→Nat} (h:AnRwp W g N lo hi tag e0 m0 c0 e1 m1 c1) {J:Nat} (hJ:J<N) (p c:Nat):(g,p,c)∉LCt (e1 J) (m1 J):=fun hm=>by
 obtain ⟨ad,h1,h2,h3⟩:=Lv hm;rcases h.en1 J hJ with e | ⟨b,e,hne,_⟩
 ·omega
 ·rw [e] at h1
  cases h1
  exact hne h3.symm
theorem eW {W:World} {g N lo hi:Nat} {tag:Nat→Nat} {e0:Nat→Option Addr} {m0 c0:Nat→Nat} {e1:Nat→Option Addr} {m1 c1:Nat→Nat} (h:AnRwp W g N lo hi tag e0 m0 c0 e1 m1 c1) {J b:Nat} (hJ:J<N) (hn:0<m1 J) (he:e1 J=some ⟨b,0,none⟩):(∀ p c,(b,p,c)∉LRw g e0 m0 e1 m1 J)∧b≠g∧(∀ p c,(b,p,c)∉LS (e0 J) (m0 J)):=by
 rcases h.en1 J hJ with e | ⟨b',e,hne,_,_,ht,_⟩
 ·omega
 ·rw [e] at he
  cases he
  refine ⟨fun p c hm=>?_,hne,fun p c hm=>by
   obtain ⟨ad,h1,h2,h3⟩:=Sc hm;rcases h.en0 J hJ with e2 | ⟨b2,e2,_,_,_,ht2,_⟩
   ·omega
   ·rw [e2] at h1
    cases h1
    have h3:b=b2:=h3;subst h3
    omega⟩
  rcases Ki h (by omega) hm with ⟨h1,_⟩ | ⟨_,h2,_⟩
  ·exact hne h1
  ·omega
theorem Uc (g N:Nat) {lo hi:Nat} {tag:Nat→Nat} (e0:Nat→Option Addr) (m0 c0:Nat→Nat) (e1:Nat→Option Addr) (m1 c1:Nat→Nat) (cap k:Nat) (w:World) (hA:AnRwp w g N lo hi tag e0 m0 c0 e1 m1 c1) (hN:N≤1048576) (h0:0<k) (h1:k+(LRw g e0 m0 e1 m1 N).length≤1073741824) :
  Calls Tryz.prog 33 #[.slice (some ⟨g,0,none⟩) N cap,.int .i64 k] w fun e w'=>e=.returned (.int .i64 ((k+(LRw g e0 m0 e1 m1 N).length:Nat):Int))∧Wr (LRw g e0 m0 e1 m1 N) w w'∧Mk w' (LRw g e0 m0 e1 m1 N) k:=by
 have HA:=iH hA;have H1:Hid (k+(LRw g e0 m0 e1 m1 N).length≤1073741824):=h1;clear hA h1;go_enter Tryz.func33,Tryz.ntmps33;go_wp2_with fail;go_loopw [1,5] (fun v i wr=>∃ J:Nat,J≤N∧i=.int .i64 J∧v=.int .i64 ((k+(LRw g e0 m0 e1 m1 J).length:Nat):Int)∧Hid (Wr (LRw g e0 m0 e1 m1 J) w wr)∧Hid (Mk wr (LRw g e0 m0 e1 m1 J) k)) (fun _ i _=>N - (intOf i).toNat)
 case atStart=>exact ⟨0,Nat.zero_le _,rfl,rfl,Wr.refl _,Mk.nil _ _⟩
 case round =>
  obtain ⟨J,hj,rfl,rfl,hW,hM⟩:=hrel;by_cases hlt:J<N
  ·have i0:(0:Int)≤(J:Int):=by omega
   have i1:(J:Int)<(N:Int):=by omega
   obtain ⟨T0,hT0⟩:∃ T:Nat,T=k+(LRw g e0 m0 e1 m1 J).length:=⟨_,rfl⟩;rw [← hT0];have HS0:=iH (Vm (HA.out.en0 J hlt));have HS1:=iH (Jc (HA.out.en1 J hlt));have HLJ:Hid ((LRw g e0 m0 e1 m1 (J+1)).length=(LRw g e0 m0 e1 m1 J).length+8+m0 J+m1 J*4):=by show _=_;have h9:=HS0.out;have h8:=HS1.out;simp only [LRw,List.length_append,List.length_cons,List.length_nil];omega
   have hTb:0<T0∧T0+8+m0 J+m1 J*4≤1073741824:=by have h8:=Oj g e0 m0 e1 m1 (J+1) N (by omega);have h9:=HLJ.out;have h7:=H1.out;omega
   have HT0:=iH hT0;clear hT0;have HNI:Hid (∀ i c,(g,J*10+i,c)∉LRw g e0 m0 e1 m1 J):=iJ HA.out (by omega);have HN0:Hid (∀ p c,(g,p,c)∉LS (e0 J) (m0 J)):=dL HA.out hlt;have HN1:Hid (∀ p c,(g,p,c)∉LCt (e1 J) (m1 J)):=dD HA.out hlt;go_wp2_with fail;refine (Bx T0 _ (by omega) (by omega)).mono ?_;rintro e wa0 ⟨rfl,hb⟩;replace hW:=iH (hW.out.below hb);replace hM:=iH (hM.out.below hb);clear hb;obtain ⟨u0,d0⟩:∃ u,wa0.cell? ⟨g,J*10,none⟩=some u:=by obtain ⟨u,hu⟩:=HA.out.row (J*10) (by omega);exact hW.out.there g _ u hu
   have g0:wa0.frozen? ⟨g,J*10,none⟩=false:=(hW.out.frozen g _ HA.out.lt).trans (HA.out.rfz _);have hM0:=iH (hM.out.set (b:=g) (o:=J*10) (c:=0) (v:=.string (Dc T0)) (fun c' hm=>by have n1:=HNI.out 0 c';exact n1 hm) d0 (by show _=mvK 0 _;rw [show k+List.length _=T0 by have e0:=HT0.out;omega];rfl));have hW0:=iH (hW.out.set g (J*10) 0 (.string (Dc T0)));go_upto_region 5 with fail;clear d0 g0 hM hW;have hM:=hM0;have hW:=hW0;clear hM0 hW0;generalize wa0.setCell ⟨g,J*10,none⟩ (.string (Dc T0))=wb0 at *;go_upto_region 6 with fail;obtain ⟨T1,hT1⟩:∃ T:Nat,T=T0+1:=⟨_,rfl⟩;rw [Az hT1];have HT1:=iH hT1;have hTb1:0<T1∧T1+7+m0 J+m1 J*4≤1073741824:=by omega
   clear hT1;go_wp2_with fail;refine (Bx T1 _ (by omega) (by omega)).mono ?_;rintro e wa1 ⟨rfl,hb⟩;replace hW:=iH (hW.out.below hb);replace hM:=iH (hM.out.below hb);clear hb;obtain ⟨u1,d1⟩:∃ u,wa1.cell? ⟨g,J*10+1,none⟩=some u:=by obtain ⟨u,hu⟩:=HA.out.row (J*10+1) (by omega);exact hW.out.there g _ u hu
   have g1:wa1.frozen? ⟨g,J*10+1,none⟩=false:=(hW.out.frozen g _ HA.out.lt).trans (HA.out.rfz _);have hM1:=iH (hM.out.set (b:=g) (o:=J*10+1) (c:=0) (v:=.string (Dc T1)) (fun c' hm=>by have n1:=HNI.out 1 c';simp [n1] at hm) d1 (by show _=mvK 0 _;rw [show k+List.length _=T1 by have e0:=HT0.out;have e1:=HT1.out;simp only [List.length_append,List.length_cons,List.length_nil];omega];rfl));have hW1:=iH (hW.out.set g (J*10+1) 0 (.string (Dc T1)));go_upto_region 7 with fail;clear d1 g1 hM hW;have hM:=hM1;have hW:=hW1;clear hM1 hW1;generalize wa1.setCell ⟨g,J*10+1,none⟩ (.string (Dc T1))=wb1 at *;go_upto_region 8 with fail;obtain ⟨T2,hT2⟩:∃ T:Nat,T=T1+1:=⟨_,rfl⟩;rw [Az hT2];have HT2:=iH hT2;have hTb2:0<T2∧T2+6+m0 J+m1 J*4≤1073741824:=by omega
   clear hT2;have c2:wb1.cell? ⟨g,J*10+2,none⟩=some (.slice (e0 J) (m0 J) (c0 J)):=(hW.out.cell g _ HA.out.lt (fun c hm=>by have n1:=Qi HA.out (J:=J) (by omega) J c;simp [n1] at hm)).trans (HA.out.sl0 J hlt);go_wp2_with fail;refine (Uz (HA.out.en0 J hlt) (c0 J) hW.out hM.out (fun b p c hn he hm=>by have hf:=fL HA.out hlt hn he;have n1:=hf.1 p c;have n2:=hf.2;simp [n1,n2] at hm) T2 (by have e0:=HT0.out;have e1:=HT1.out;have e2:=HT2.out;simp only [List.length_append,List.length_cons,List.length_nil];omega) (by omega) (by omega)).mono ?_;rintro e ws0 ⟨rfl,hW5,hM5⟩;replace hW:=iH hW5;replace hM:=iH hM5;clear hW5 hM5 c2;obtain ⟨T3,hT3⟩:∃ T:Nat,T=T2+m0 J:=⟨_,rfl⟩;rw [← hT3];have HT3:=iH hT3;have hTb3:0<T3∧T3+6+m1 J*4≤1073741824:=by omega
   clear hT3;go_upto_region 9 with fail;obtain ⟨u3,d3⟩:∃ u,ws0.cell? ⟨g,J*10+3,none⟩=some u:=by obtain ⟨u,hu⟩:=HA.out.row (J*10+3) (by omega);exact hW.out.there g _ u hu
   have g3:ws0.frozen? ⟨g,J*10+3,none⟩=false:=(hW.out.frozen g _ HA.out.lt).trans (HA.out.rfz _);have hM3:=iH (hM.out.set (b:=g) (o:=J*10+3) (c:=1) (v:=.int .i64 ((T3:Nat):Int)) (fun c' hm=>by have n1:=HNI.out 3 c';have n2:=HN0.out (J*10+3) c';simp [n1,n2] at hm) d3 (by show _=mvK 1 _;rw [show k+List.length _=T3 by have e0:=HT0.out;have e1:=HT1.out;have e2:=HT2.out;have e3:=HT3.out;have s0:=HS0.out;simp only [List.length_append,List.length_cons,List.length_nil];omega];rfl));have hW3:=iH (hW.out.set g (J*10+3) 1 (.int .i64 ((T3:Nat):Int)));go_upto_region 10 with fail;clear d3 g3 hM hW;have hM:=hM3;have hW:=hW3;clear hM3 hW3;generalize ws0.setCell ⟨g,J*10+3,none⟩ (.int .i64 ((T3:Nat):Int))=wb3 at *;go_upto_region 11 with fail;obtain ⟨T4,hT4⟩:∃ T:Nat,T=T3+1:=⟨_,rfl⟩;rw [Az hT4];have HT4:=iH hT4;have hTb4:0<T4∧T4+5+m1 J*4≤1073741824:=by omega
   clear hT4;obtain ⟨u4,d4⟩:∃ u,wb3.cell? ⟨g,J*10+4,none⟩=some u:=by obtain ⟨u,hu⟩:=HA.out.row (J*10+4) (by omega);exact hW.out.there g _ u hu
   have g4:wb3.frozen? ⟨g,J*10+4,none⟩=false:=(hW.out.frozen g _ HA.out.lt).trans (HA.out.rfz _);have hM4:=iH (hM.out.set (b:=g) (o:=J*10+4) (c:=1) (v:=.int .i64 ((T4:Nat):Int)) (fun c' hm=>by have n1:=HNI.out 4 c';have n2:=HN0.out (J*10+4) c';simp [n1,n2] at hm) d4 (by show _=mvK 1 _;rw [show k+List.length _=T4 by have e0:=HT0.out;have e1:=HT1.out;have e2:=HT2.out;have e3:=HT3.out;have e4:=HT4.out;have s0:=HS0.out;simp only [List.length_append,List.length_cons,List.length_nil];omega];rfl));have hW4:=iH (hW.out.set g (J*10+4) 1 (.int .i64 ((T4:Nat):Int)));go_upto_region 12 with fail;clear d4 g4 hM hW;have hM:=hM4;have hW:=hW4;clear hM4 hW4;generalize wb3.setCell ⟨g,J*10+4,none⟩ (.int .i64 ((T4:Nat):Int))=wb4 at *;go_upto_region 13 with fail;obtain ⟨T5,hT5⟩:∃ T:Nat,T=T4+1:=⟨_,rfl⟩;rw [Az hT5];have HT5:=iH hT5;have hTb5:0<T5∧T5+4+m1 J*4≤1073741824:=by omega
   clear hT5;obtain ⟨u5,d5⟩:∃ u,wb4.cell? ⟨g,J*10+5,none⟩=some u:=by obtain ⟨u,hu⟩:=HA.out.row (J*10+5) (by omega);exact hW.out.there g _ u hu
   have g5:wb4.frozen? ⟨g,J*10+5,none⟩=false:=(hW.out.frozen g _ HA.out.lt).trans (HA.out.rfz _);have hM5:=iH (hM.out.set (b:=g) (o:=J*10+5) (c:=2) (v:=.bool ((T5:Int) % 3 == 0)) (fun c' hm=>by have n1:=HNI.out 5 c';have n2:=HN0.out (J*10+5) c';simp [n1,n2] at hm) d5 (by show _=mvK 2 _;rw [show k+List.length _=T5 by have e0:=HT0.out;have e1:=HT1.out;have e2:=HT2.out;have e3:=HT3.out;have e4:=HT4.out;have e5:=HT5.out;have s0:=HS0.out;simp only [List.length_append,List.length_cons,List.length_nil];omega];exact congrArg Value.bool (kI _)));have hW5:=iH (hW.out.set g (J*10+5) 2 (.bool ((T5:Int) % 3 == 0)));go_upto_region 14 with fail;clear d5 g5 hM hW;have hM:=hM5;have hW:=hW5;clear hM5 hW5;generalize wb4.setCell ⟨g,J*10+5,none⟩ (.bool ((T5:Int) % 3 == 0))=wb5 at *;go_upto_region 15 with fail;obtain ⟨T6,hT6⟩:∃ T:Nat,T=T5+1:=⟨_,rfl⟩;rw [Az hT6];have HT6:=iH hT6;have hTb6:0<T6∧T6+3+m1 J*4≤1073741824:=by omega
   clear hT6;obtain ⟨u6,d6⟩:∃ u,wb5.cell? ⟨g,J*10+6,none⟩=some u:=by obtain ⟨u,hu⟩:=HA.out.row (J*10+6) (by omega);exact hW.out.there g _ u hu
   have g6:wb5.frozen? ⟨g,J*10+6,none⟩=false:=(hW.out.frozen g _ HA.out.lt).trans (HA.out.rfz _);have hM6:=iH (hM.out.set (b:=g) (o:=J*10+6) (c:=1) (v:=.int .i64 ((T6:Nat):Int)) (fun c' hm=>by have n1:=HNI.out 6 c';have n2:=HN0.out (J*10+6) c';simp [n1,n2] at hm) d6 (by show _=mvK 1 _;rw [show k+List.length _=T6 by have e0:=HT0.out;have e1:=HT1.out;have e2:=HT2.out;have e3:=HT3.out;have e4:=HT4.out;have e5:=HT5.out;have e6:=HT6.out;have s0:=HS0.out;simp only [List.length_append,List.length_cons,List.length_nil];omega];rfl));have hW6:=iH (hW.out.set g (J*10+6) 1 (.int .i64 ((T6:Nat):Int)));go_upto_region 16 with fail;clear d6 g6 hM hW;have hM:=hM6;have hW:=hW6;clear hM6 hW6;generalize wb5.setCell ⟨g,J*10+6,none⟩ (.int .i64 ((T6:Nat):Int))=wb6 at *;go_upto_region 17 with fail;obtain ⟨T7,hT7⟩:∃ T:Nat,T=T6+1:=⟨_,rfl⟩;rw [Az hT7];have HT7:=iH hT7;have hTb7:0<T7∧T7+2+m1 J*4≤1073741824:=by omega
   clear hT7;obtain ⟨u7,d7⟩:∃ u,wb6.cell? ⟨g,J*10+7,none⟩=some u:=by obtain ⟨u,hu⟩:=HA.out.row (J*10+7) (by omega);exact hW.out.there g _ u hu
   have g7:wb6.frozen? ⟨g,J*10+7,none⟩=false:=(hW.out.frozen g _ HA.out.lt).trans (HA.out.rfz _);have hM7:=iH (hM.out.set (b:=g) (o:=J*10+7) (c:=1) (v:=.int .i64 ((T7:Nat):Int)) (fun c' hm=>by have n1:=HNI.out 7 c';have n2:=HN0.out (J*10+7) c';simp [n1,n2] at hm) d7 (by show _=mvK 1 _;rw [show k+List.length _=T7 by have e0:=HT0.out;have e1:=HT1.out;have e2:=HT2.out;have e3:=HT3.out;have e4:=HT4.out;have e5:=HT5.out;have e6:=HT6.out;have e7:=HT7.out;have s0:=HS0.out;simp only [List.length_append,List.length_cons,List.length_nil];omega];rfl));have hW7:=iH (hW.out.set g (J*10+7) 1 (.int .i64 ((T7:Nat):Int)));go_upto_region 18 with fail;clear d7 g7 hM hW;have hM:=hM7;have hW:=hW7;clear hM7 hW7;generalize wb6.setCell ⟨g,J*10+7,none⟩ (.int .i64 ((T7:Nat):Int))=wb7 at *;go_upto_region 19 with fail;obtain ⟨T8,hT8⟩:∃ T:Nat,T=T7+1:=⟨_,rfl⟩;rw [Az hT8];have HT8:=iH hT8;have hTb8:0<T8∧T8+1+m1 J*4≤1073741824:=by omega
   clear hT8;obtain ⟨u8,d8⟩:∃ u,wb7.cell? ⟨g,J*10+8,none⟩=some u:=by obtain ⟨u,hu⟩:=HA.out.row (J*10+8) (by omega);exact hW.out.there g _ u hu
   have g8:wb7.frozen? ⟨g,J*10+8,none⟩=false:=(hW.out.frozen g _ HA.out.lt).trans (HA.out.rfz _);have hM8:=iH (hM.out.set (b:=g) (o:=J*10+8) (c:=1) (v:=.int .i64 ((T8:Nat):Int)) (fun c' hm=>by have n1:=HNI.out 8 c';have n2:=HN0.out (J*10+8) c';simp [n1,n2] at hm) d8 (by show _=mvK 1 _;rw [show k+List.length _=T8 by have e0:=HT0.out;have e1:=HT1.out;have e2:=HT2.out;have e3:=HT3.out;have e4:=HT4.out;have e5:=HT5.out;have e6:=HT6.out;have e7:=HT7.out;have e8:=HT8.out;have s0:=HS0.out;simp only [List.length_append,List.length_cons,List.length_nil];omega];rfl));have hW8:=iH (hW.out.set g (J*10+8) 1 (.int .i64 ((T8:Nat):Int)));go_upto_region 20 with fail;clear d8 g8 hM hW;have hM:=hM8;have hW:=hW8;clear hM8 hW8;generalize wb7.setCell ⟨g,J*10+8,none⟩ (.int .i64 ((T8:Nat):Int))=wb8 at *;go_upto_region 21 with fail;obtain ⟨T9,hT9⟩:∃ T:Nat,T=T8+1:=⟨_,rfl⟩;rw [Az hT9];have HT9:=iH hT9;have hTb9:0<T9∧T9+0+m1 J*4≤1073741824:=by omega
   clear hT9;have c2:wb8.cell? ⟨g,J*10+9,none⟩=some (.slice (e1 J) (m1 J) (c1 J)):=(hW.out.cell g _ HA.out.lt (fun c hm=>by have n1:=Qy HA.out (J:=J) (by omega) J c;have n2:=HN0.out (J*10+9) c;simp [n1,n2] at hm)).trans (HA.out.sl1 J hlt);go_wp2_with fail;refine (Ms (HA.out.en1 J hlt) (c1 J) hW.out hM.out (fun b p c hn he hm=>by have hf:=eW HA.out hlt hn he;have n1:=hf.1 p c;have n2:=hf.2.1;have n3:=hf.2.2 p c;simp [n1,n2,n3] at hm) T9 (by have e0:=HT0.out;have e1:=HT1.out;have e2:=HT2.out;have e3:=HT3.out;have e4:=HT4.out;have e5:=HT5.out;have e6:=HT6.out;have e7:=HT7.out;have e8:=HT8.out;have e9:=HT9.out;have s0:=HS0.out;simp only [List.length_append,List.length_cons,List.length_nil];omega) (by omega) (by omega)).mono ?_;rintro e ws1 ⟨rfl,hW5,hM5⟩;replace hW:=iH hW5;replace hM:=iH hM5;clear hW5 hM5 c2;obtain ⟨T10,hT10⟩:∃ T:Nat,T=T9+m1 J*4:=⟨_,rfl⟩;rw [← hT10];have HT10:=iH hT10;have hTb10:0<T10∧T10+0≤1073741824:=by omega
   clear hT10;have HMf:Hid (Mk ws1 (LRw g e0 m0 e1 m1 (J+1)) k):=by have h:=hM.out;show Mk _ _ _;simpa [LRw] using h
   have HWf:Hid (Wr (LRw g e0 m0 e1 m1 (J+1)) w ws1):=by have h:=hW.out;show Wr _ _ _;simpa [LRw] using h
   clear hM hW;go_wp2_with fail;go_roundw
   case rel=>exact ⟨J+1,by omega,by go_num,by have e99:=HLJ.out;have e0:=HT0.out;have e1:=HT1.out;have e2:=HT2.out;have e3:=HT3.out;have e4:=HT4.out;have e5:=HT5.out;have e6:=HT6.out;have e7:=HT7.out;have e8:=HT8.out;have e9:=HT9.out;have e10:=HT10.out;congr 1;omega,HWf,HMf⟩
   case measure=>simp [intOf];omega
  ·have hje:J=N:=by omega
   subst hje;go_wp2_with fail;go_ret;exact ⟨rfl,hW.out,hM.out⟩
end Go.Proofs.YtpeajnkkdioflaaGreat
