import Derived.Test.YthboopnmbglkjaaGreatJ47
set_option maxHeartbeats 4000000
namespace Go.Proofs.YthboopnmbglkjaaGreat
open Tryz
set_option maxRecDepth 100000
open Go.RowKit Tryz
structure AnW (n f m:Nat) (W:World) (g N:Nat) (ea:Nat->OA) (ns ec:Nat->Nat):Prop where
 lt:g<W.heap.size
 row:∀p,p<N*n->∃u,W.cell? (E g p)=some u
 rfz:∀p,W.frozen? (E g p)=false
 sl:∀j,j<N->W.cell? (E g (j*n+f))=some (.slice (ea j) (ns j) (ec j))
 en:∀j,j<N->ns j=0\/∃b o,ea j=(O b o)/\b≠g/\b<W.heap.size/\EnW W b o (ns j*m)
 ap:∀i j b o b' o',i<j->j<N->0<ns i->0<ns j->ea i=(O b o)->ea j=(O b' o')->b≠b'
theorem mT{a:OA}{n x p c:Nat}(h:(x,p,c)∈LS a n):∃ad,a=some ad/\0<n/\x=ad.block:=by
 cases a with
 |none=>cases h
 |some ad =>
  have h:(x,p,c)∈List.map (λt=>(ad.block,ad.off+t,0)) (List.range n):=h;simp at h;obtain⟨t,ht,rfl,rfl,rfl⟩:=h;exact⟨ad,rfl,by omega,rfl⟩
theorem gI{a:OA}{n x p c:Nat}(h:(x,p,c)∈LLk a n):∃ad,a=some ad/\0<n/\x=ad.block:=by
 cases a with
 |none=>cases h
 |some ad =>
  have h:(x,p,c)∈List.flatMap (λt=>[(ad.block,ad.off+t*2,0),(ad.block,ad.off+t*2+1,1)]) (List.range n):=h;simp at h;obtain⟨t,ht,h⟩:=h;exact⟨ad,rfl,by omega,by rcases h with h|h<;>exact h.1⟩
theorem Li(a:OA)(cap T:Nat)(w:World) :
  Calls prog 36 #[.slice a 0 cap,X (T:Int)] w λe w'=>e=.returned (X (T:Int))/\w'=w:=by
 go_enter func36,ntmps36
 go_wp2
 go_loopw [1,5] (λv i wr=>v=X (T:Int)/\i=X 0/\wr=w) (λ_ _ _=>0)
 case atStart=>exact⟨rfl,rfl,rfl⟩
 obtain⟨rfl,rfl,rfl⟩:=hrel
 go_wp2
 go_ret;exact⟨rfl,rfl⟩
theorem Py(a:OA)(cap T:Nat)(w:World) :
  Calls prog 75 #[.slice a 0 cap,X (T:Int)] w λe w'=>e=.returned (X (T:Int))/\w'=w:=by
 go_enter func75,ntmps75
 go_wp2
 go_loopw [1,5] (λv i wr=>v=X (T:Int)/\i=X 0/\wr=w) (λ_ _ _=>0)
 case atStart=>exact⟨rfl,rfl,rfl⟩
 obtain⟨rfl,rfl,rfl⟩:=hrel
 go_wp2
 go_ret;exact⟨rfl,rfl⟩
def LBr(g:Nat)(ea:Nat->OA)(ns:Nat->Nat):Nat->List (Nat×Nat×Nat)
 |0=>[]
 |J+1=>LBr g ea ns J++([(g,J*6,0),(g,J*6+1,0)]++(LS (ea J) (ns J)++[(g,J*6+3,1),(g,J*6+4,1),(g,J*6+5,2)]))
theorem Pu{g x p c:Nat}{ea:Nat->OA}{ns:Nat->Nat}:∀{J:Nat},(x,p,c)∈LBr g ea ns J->(x=g/\p<J*6/\∀j,p≠j*6+2)\/∃j ad,j<J/\0<ns j/\ea j=some ad/\x=ad.block
 |0,h=>by cases h
 | J+1,h=>by
  simp only[LBr,List.mem_append]at h;rcases h with h|h|h|h
  .rcases Pu h with⟨h1,h2,h3⟩|⟨j,ad,h1,h2,h3,h4⟩
   .exact .inl ⟨h1,by omega,h3⟩
   exact .inr ⟨j,ad,by omega,h2,h3,h4⟩
  .refine .inl ?_
   simp at h;refine⟨by omega,by omega,λj=>by omega⟩
  .obtain⟨ad,h1,h2,h3⟩:=mT h
   exact .inr ⟨J,ad,by omega,h2,h1,h3⟩
  refine .inl ?_;simp at h;refine⟨by omega,by omega,λj=>by omega⟩
theorem Us(g:Nat)(ea:Nat->OA)(ns:Nat->Nat)(J:Nat):∀N,J<=N->(LBr g ea ns J).length<=(LBr g ea ns N).length
 |0,h=>by rw[show J=0 by omega];exact Nat.le_refl _
 |N+1,h=>by
  by_cases e:J=N+1
  .rw[e];exact Nat.le_refl _
  have:=Us g ea ns J N (by omega);simp only[LBr,List.length_append];omega
theorem vQ{W:World}{g N:Nat}{ea:Nat->OA}{ns ec:Nat->Nat}(h:AnW 6 2 1 W g N ea ns ec){J:Nat}(hJ:J<=N)(i c:Nat):(g,J*6+i,c)∉LBr g ea ns J:=by
 intro hm;rcases Pu hm with⟨_,h2,_⟩|⟨j,ad,h1,h2,h3,h4⟩
 .omega
 rcases h.en j (by omega)with e|⟨b,o,e,hne,_⟩
 .omega
 rw[e]at h3;cases h3
 exact hne h4.symm
theorem xD{W:World}{g N:Nat}{ea:Nat->OA}{ns ec:Nat->Nat}(h:AnW 6 2 1 W g N ea ns ec){J:Nat}(hJ:J<N)(p c:Nat):(g,p,c)∉LS (ea J) (ns J):=by
 intro hm;obtain⟨ad,h1,h2,h3⟩:=mT hm;rcases h.en J hJ with e|⟨b,o,e,hne,_⟩
 .omega
 rw[e]at h1;cases h1
 exact hne h3.symm
theorem dK{W:World}{g N:Nat}{ea:Nat->OA}{ns ec:Nat->Nat}(h:AnW 6 2 1 W g N ea ns ec){J:Nat}(hJ:J<=N)(j c:Nat):(g,j*6+2,c)∉LBr g ea ns J:=by
 intro hm;rcases Pu hm with⟨_,_,h3⟩|⟨i,ad,h1,h2,h3,h4⟩
 .exact h3 j rfl
 rcases h.en i (by omega)with e|⟨b,o,e,hne,_⟩
 .omega
 rw[e]at h3;cases h3
 exact hne h4.symm
theorem vM{W:World}{g N:Nat}{ea:Nat->OA}{ns ec:Nat->Nat}(h:AnW 6 2 1 W g N ea ns ec){J b o:Nat}(hJ:J<N)(hn:0<ns J)(he:ea J=(O b o))(p c:Nat):(b,p,c)∉LBr g ea ns J:=by
 intro hm;rcases Pu hm with⟨h1,_,_⟩|⟨i,ad,h1,h2,h3,h4⟩
 .rcases h.en J hJ with e|⟨b',o',e,hne,_⟩
  .omega
  rw[e]at he;cases he
  exact hne h1
 rcases h.en i (by omega)with e|⟨b',o',e,_⟩
 .omega
 rw[e]at h3;cases h3
 exact h.ap i J b' o' b o h1 hJ h2 hn e he h4.symm
theorem mZ{W:World}{g N:Nat}{ea:Nat->OA}{ns ec:Nat->Nat}(h:AnW 6 2 1 W g N ea ns ec){J:Nat}(hJ:J<N):(LS (ea J) (ns J)).length=ns J:=by
 rcases h.en J hJ with e|⟨b,o,e,_⟩
 .rw[e,Nt];rfl
 rw[e,kA]
theorem pZ{W:World}{g N:Nat}{ea:Nat->OA}{ns ec:Nat->Nat}(h:AnW 6 2 1 W g N ea ns ec){J b o:Nat}(hJ:J<N)(hn:0<ns J)(he:ea J=(O b o)):b≠g:=by
 rcases h.en J hJ with e|⟨b',o',e,hne,_⟩
 .omega
 rw[e]at he;cases he
 exact hne
theorem jQ{W w:World}{g N:Nat}{ea:Nat->OA}{ns ec:Nat->Nat}{L:List (Nat×Nat×Nat)}{k:Nat}(h:AnW 6 2 1 W g N ea ns ec){J:Nat}(hJ:J<N)(cap:Nat)(hW:Wr L W w)(hM:Mk w L k)(hf:∀b o p c,0<ns J->ea J=(O b o)->(b,p,c)∈L->False)(T:Nat)(hT:T=k+L.length)(h0:0<T)(h1:T+ns J<=1073741824) :
  Calls prog 36 #[.slice (ea J) (ns J) cap,X (T:Int)] w λe w'=>e=.returned (X ((T+ns J:Nat):Int))/\Wr (L++LS (ea J) (ns J)) W w'/\Mk w' (L++LS (ea J) (ns J)) k:=by
 rcases h.en J hJ with e|⟨b,o,e,hne,hbl,hE⟩
 .rw[e,Nt,List.append_nil]
  refine(Li (ea J) cap T w).mono ?_;rintro e' w' ⟨rfl,rfl⟩;exact⟨rfl,hW,hM⟩
 by_cases hz:ns J=0
 .rw[hz,Nt,List.append_nil]
  refine(Li (ea J) cap T w).mono ?_;rintro e' w' ⟨rfl,rfl⟩;exact⟨rfl,hW,hM⟩
 rw[e];refine(cQ b o (ns J) cap T w (by have h9:=hE.wr hW hbl;simpa using h9) (lL hbl hW.size) h0 h1).mono ?_;rintro e' w' ⟨rfl,hW2,hM2⟩;refine⟨rfl,hW.trans hW2,Mk.app (hM.wr hW2 (λx p c c' h8 h9=>?_)) (by rw[<-hT];exact hM2)⟩;have:=rC h9;rw[this.1]at h8;exact hf b o p c (by omega) e h8
theorem cY(g N:Nat)(ea:Nat->OA)(ns ec:Nat->Nat)(cap k:Nat)(w:World)(hA:AnW 6 2 1 w g N ea ns ec)(hN:N<=1048576)(h0:0<k)(h1:k+(LBr g ea ns N).length<=1073741824) :
  Calls prog 32 #[sP g 0 N cap,X k] w λe w'=>e=.returned (X ((k+(LBr g ea ns N).length:Nat):Int))/\Wr (LBr g ea ns N) w w'/\Mk w' (LBr g ea ns N) k:=by
 have HA:=iH hA;have H1:=iH h1;clear hA h1;go_enter func32,ntmps32
 go_wp2
 go_loopw [1,5] (λv i wr=>∃J:Nat,J<=N/\i=X J/\v=X ((k+(LBr g ea ns J).length:Nat):Int)/\Hid (Wr (LBr g ea ns J) w wr)/\Hid (Mk wr (LBr g ea ns J) k)) (λ_ i _=>N-(intOf i).toNat)
 case atStart=>exact⟨0,zL,rfl,rfl,Wr.refl _,Mk.nil _ _⟩
 obtain⟨J,hj,rfl,rfl,hW,hM⟩:=hrel;by_cases hlt:J<N
 .have i0:(0:Int)<=(J:Int):=by omega
  have i1:(J:Int)<(N:Int):=by omega
  obtain⟨T0,hT0⟩:∃T:Nat,T=k+(LBr g ea ns J).length:=⟨_,rfl⟩;rw[<-hT0];have HNS:=iH (mZ HA hlt);have HLJ:Hid ((LBr g ea ns (J+1)).length=(LBr g ea ns J).length+5+ns J):=by show _=_;have h9:=HNS.out;simp only[LBr,List.length_append,List.length_cons,List.length_nil];omega
  have hTb:0<T0/\T0+5+ns J<=1073741824:=by have h8:=Us g ea ns (J+1) N (by omega);have h9:=HLJ.out;have h7:=H1.out;omega
  have HT0:=iH hT0;have HNI:Hid (∀i c,(g,J*6+i,c)∉LBr g ea ns J):=vQ HA (by omega);have HNS2:Hid (∀p c,(g,p,c)∉LS (ea J) (ns J)):=xD HA hlt;clear hT0;go_wp2_with fail;refine(Ao T0 _ (by omega) (by omega)).mono ?_;rintro e wa0⟨rfl,hb⟩;replace hW:=iH (hW.out.below hb);replace hM:=iH (hM.out.below hb);clear hb;obtain⟨u0,d0⟩:∃u,wa0.cell? (E g (J*6))=some u:=by obtain⟨u,hu⟩:=HA.out.row (J*6) (by omega);exact hW.out.there g _ u hu
  have g0:wa0.frozen? (E g (J*6))=false:=(hW.out.frozen g _ HA.out.lt).trans (HA.out.rfz _);have hM0:=iH (hM.out.set (b:=g) (o:=J*6) (c:=0) (v:=Y (Bp T0)) (λc' hm=>by exact HNI.out 0 c' hm) d0 (by show _=mvK 0 _;rw[show k+List.length _=T0 by have e0:=HT0.out; omega];rfl));have hW0:=iH (hW.out.set g (J*6) 0 (Y (Bp T0)));go_upto_region 5 with fail;clear d0 g0 hM hW;have hM:=hM0;have hW:=hW0;clear hM0 hW0;generalize wa0.setCell (E g (J*6)) (Y (Bp T0))=wb0 at *;go_upto_region 6 with fail;obtain⟨T1,hT1⟩:∃T:Nat,T=T0+1:=⟨_,rfl⟩;rw[Aq hT1];have HT1:=iH hT1;have hTb1:0<T1/\T1+4+ns J<=1073741824:=by omega
  clear hT1;go_wp2_with fail;refine(Ao T1 _ (by omega) (by omega)).mono ?_;rintro e wa1⟨rfl,hb⟩;replace hW:=iH (hW.out.below hb);replace hM:=iH (hM.out.below hb);clear hb;obtain⟨u1,d1⟩:∃u,wa1.cell? (E g (J*6+1))=some u:=by obtain⟨u,hu⟩:=HA.out.row (J*6+1) (by omega);exact hW.out.there g _ u hu
  have g1:wa1.frozen? (E g (J*6+1))=false:=(hW.out.frozen g _ HA.out.lt).trans (HA.out.rfz _);have hM1:=iH (hM.out.set (b:=g) (o:=J*6+1) (c:=0) (v:=Y (Bp T1)) (λc' hm=>by have n1:=HNI.out 1 c';simp[n1]at hm) d1 (by show _=mvK 0 _;rw[show k+List.length _=T1 by have e0:=HT0.out;have e1:=HT1.out;simp only[List.length_append,List.length_cons,List.length_nil];omega];rfl));have hW1:=iH (hW.out.set g (J*6+1) 0 (Y (Bp T1)));go_upto_region 7 with fail;clear d1 g1 hM hW;have hM:=hM1;have hW:=hW1;clear hM1 hW1;generalize wa1.setCell (E g (J*6+1)) (Y (Bp T1))=wb1 at *;go_upto_region 8 with fail;obtain⟨T2,hT2⟩:∃T:Nat,T=T1+1:=⟨_,rfl⟩;rw[Aq hT2];have HT2:=iH hT2;have hTb2:0<T2/\T2+3+ns J<=1073741824:=by omega
  clear hT2;have c2:wb1.cell? (E g (J*6+2))=some (.slice (ea J) (ns J) (ec J)):=(hW.out.cell g _ HA.out.lt (λc hm=>by have n1:=dK HA (J:=J) (by omega) J c;simp[n1]at hm)).trans (HA.out.sl J hlt);have hz9:J<N:=hlt;go_wp2_with fail;refine(jQ HA hlt (ec J) hW.out hM.out (λb o p c hn he hm=>by have n1:=vM HA hlt hn he p c;have n2:b≠g:=pZ HA hlt hn he;simp[n1,n2]at hm) T2 (by have e0:=HT0.out;have e1:=HT1.out;have e2:=HT2.out;simp only[List.length_append,List.length_cons,List.length_nil];omega) (by omega) (by omega)).mono ?_;rintro e w5⟨rfl,hW5,hM5⟩;replace hW:=iH hW5;replace hM:=iH hM5;clear hW5 hM5 c2;obtain⟨T3,hT3⟩:∃T:Nat,T=T2+ns J:=⟨_,rfl⟩;rw[<-hT3];have HT3:=iH hT3;have hTb3:0<T3/\T3+3<=1073741824:=by omega
  clear hT3;go_upto_region 9 with fail;obtain⟨u3,d3⟩:∃u,w5.cell? (E g (J*6+3))=some u:=by obtain⟨u,hu⟩:=HA.out.row (J*6+3) (by omega);exact hW.out.there g _ u hu
  have g3:w5.frozen? (E g (J*6+3))=false:=(hW.out.frozen g _ HA.out.lt).trans (HA.out.rfz _);have hM3:=iH (hM.out.set (b:=g) (o:=J*6+3) (c:=1) (v:=X ((T3:Nat):Int)) (λc' hm=>by have n1:=HNI.out 3 c';have n2:=HNS2.out (J*6+3) c';simp[n1,n2]at hm) d3 (by show _=mvK 1 _;rw[show k+List.length _=T3 by have e0:=HT0.out;have e9:=HNS.out;have e1:=HT1.out;have e2:=HT2.out;have e3:=HT3.out;simp only[List.length_append,List.length_cons,List.length_nil];omega];rfl));have hW3:=iH (hW.out.set g (J*6+3) 1 (X ((T3:Nat):Int)));go_upto_region 10 with fail;clear d3 g3 hM hW;have hM:=hM3;have hW:=hW3;clear hM3 hW3;generalize w5.setCell (E g (J*6+3)) (X ((T3:Nat):Int))=wb3 at *;go_upto_region 11 with fail;obtain⟨T4,hT4⟩:∃T:Nat,T=T3+1:=⟨_,rfl⟩;rw[Aq hT4];have HT4:=iH hT4;have hTb4:0<T4/\T4+2<=1073741824:=by omega
  clear hT4;obtain⟨u4,d4⟩:∃u,wb3.cell? (E g (J*6+4))=some u:=by obtain⟨u,hu⟩:=HA.out.row (J*6+4) (by omega);exact hW.out.there g _ u hu
  have g4:wb3.frozen? (E g (J*6+4))=false:=(hW.out.frozen g _ HA.out.lt).trans (HA.out.rfz _);have hM4:=iH (hM.out.set (b:=g) (o:=J*6+4) (c:=1) (v:=X ((T4:Nat):Int)) (λc' hm=>by have n1:=HNI.out 4 c';have n2:=HNS2.out (J*6+4) c';simp[n1,n2]at hm) d4 (by show _=mvK 1 _;rw[show k+List.length _=T4 by have e0:=HT0.out;have e9:=HNS.out;have e1:=HT1.out;have e2:=HT2.out;have e3:=HT3.out;have e4:=HT4.out;simp only[List.length_append,List.length_cons,List.length_nil];omega];rfl));have hW4:=iH (hW.out.set g (J*6+4) 1 (X ((T4:Nat):Int)));go_upto_region 12 with fail;clear d4 g4 hM hW;have hM:=hM4;have hW:=hW4;clear hM4 hW4;generalize wb3.setCell (E g (J*6+4)) (X ((T4:Nat):Int))=wb4 at *;go_upto_region 13 with fail;obtain⟨T5,hT5⟩:∃T:Nat,T=T4+1:=⟨_,rfl⟩;rw[Aq hT5];have HT5:=iH hT5;have hTb5:0<T5/\T5+1<=1073741824:=by omega
  clear hT5;obtain⟨u5,d5⟩:∃u,wb4.cell? (E g (J*6+5))=some u:=by obtain⟨u,hu⟩:=HA.out.row (J*6+5) (by omega);exact hW.out.there g _ u hu
  have g5:wb4.frozen? (E g (J*6+5))=false:=(hW.out.frozen g _ HA.out.lt).trans (HA.out.rfz _);have hM5:=iH (hM.out.set (b:=g) (o:=J*6+5) (c:=2) (v:=.bool (decide ((T5:Int).tmod 3=0))) (λc' hm=>by have n1:=HNI.out 5 c';have n2:=HNS2.out (J*6+5) c';simp[n1,n2]at hm) d5 (by show _=mvK 2 _;rw[show k+List.length _=T5 by have e0:=HT0.out;have e9:=HNS.out;have e1:=HT1.out;have e2:=HT2.out;have e3:=HT3.out;have e4:=HT4.out;have e5:=HT5.out;simp only[List.length_append,List.length_cons,List.length_nil];omega];rfl));have hW5:=iH (hW.out.set g (J*6+5) 2 (.bool (decide ((T5:Int).tmod 3=0))));have HMf:Hid (Mk (wb4.setCell (E g (J*6+5)) (.bool (decide ((T5:Int).tmod 3=0)))) (LBr g ea ns (J+1)) k):=by have h:=hM5.out;show Mk _ _ _;simpa[LBr]using h
  have HWf:Hid (Wr (LBr g ea ns (J+1)) w (wb4.setCell (E g (J*6+5)) (.bool (decide ((T5:Int).tmod 3=0))))):=by have h:=hW5.out;show Wr _ _ _;simpa[LBr]using h
  clear hM hW hM5 hW5
  go_wp2
  go_roundw
  case rel=>exact⟨J+1,by omega,by go_num,by have e0:=HT0.out;have e9:=HLJ.out;have e1:=HT1.out;have e2:=HT2.out;have e3:=HT3.out;have e4:=HT4.out;have e5:=HT5.out;congr 1;omega,HWf,HMf⟩
  simp[intOf];omega
 have hje:J=N:=by omega
 subst hje
 go_wp2
 go_ret;exact⟨rfl,hW.out,hM.out⟩
def LCp(g:Nat)(ea:Nat->OA)(ns:Nat->Nat):Nat->List (Nat×Nat×Nat)
 |0=>[]
 |J+1=>LCp g ea ns J++([(g,J*12,0),(g,J*12+1,0),(g,J*12+2,1),(g,J*12+3,1),(g,J*12+4,1),(g,J*12+5,1),(g,J*12+6,0)]++(LLk (ea J) (ns J)++[(g,J*12+8,1),(g,J*12+9,0),(g,J*12+10,0),(g,J*12+11,0)]))
theorem Pq{g x p c:Nat}{ea:Nat->OA}{ns:Nat->Nat}:∀{J:Nat},(x,p,c)∈LCp g ea ns J->(x=g/\p<J*12/\∀j,p≠j*12+7)\/∃j ad,j<J/\0<ns j/\ea j=some ad/\x=ad.block
 |0,h=>by cases h
 | J+1,h=>by
  simp only[LCp,List.mem_append]at h;rcases h with h|h|h|h
  .rcases Pq h with⟨h1,h2,h3⟩|⟨j,ad,h1,h2,h3,h4⟩
   .exact .inl ⟨h1,by omega,h3⟩
   exact .inr ⟨j,ad,by omega,h2,h3,h4⟩
  .refine .inl ?_
   simp at h;refine⟨by omega,by omega,λj=>by omega⟩
  .obtain⟨ad,h1,h2,h3⟩:=gI h
   exact .inr ⟨J,ad,by omega,h2,h1,h3⟩
  refine .inl ?_;simp at h;refine⟨by omega,by omega,λj=>by omega⟩
theorem Vw(g:Nat)(ea:Nat->OA)(ns:Nat->Nat)(J:Nat):∀N,J<=N->(LCp g ea ns J).length<=(LCp g ea ns N).length
 |0,h=>by rw[show J=0 by omega];exact Nat.le_refl _
 |N+1,h=>by
  by_cases e:J=N+1
  .rw[e];exact Nat.le_refl _
  have:=Vw g ea ns J N (by omega);simp only[LCp,List.length_append];omega
theorem wR{W:World}{g N:Nat}{ea:Nat->OA}{ns ec:Nat->Nat}(h:AnW 12 7 2 W g N ea ns ec){J:Nat}(hJ:J<=N)(i c:Nat):(g,J*12+i,c)∉LCp g ea ns J:=by
 intro hm;rcases Pq hm with⟨_,h2,_⟩|⟨j,ad,h1,h2,h3,h4⟩
 .omega
 rcases h.en j (by omega)with e|⟨b,o,e,hne,_⟩
 .omega
 rw[e]at h3;cases h3
 exact hne h4.symm
theorem xE{W:World}{g N:Nat}{ea:Nat->OA}{ns ec:Nat->Nat}(h:AnW 12 7 2 W g N ea ns ec){J:Nat}(hJ:J<N)(p c:Nat):(g,p,c)∉LLk (ea J) (ns J):=by
 intro hm;obtain⟨ad,h1,h2,h3⟩:=gI hm;rcases h.en J hJ with e|⟨b,o,e,hne,_⟩
 .omega
 rw[e]at h1;cases h1
 exact hne h3.symm
theorem gA{W:World}{g N:Nat}{ea:Nat->OA}{ns ec:Nat->Nat}(h:AnW 12 7 2 W g N ea ns ec){J:Nat}(hJ:J<=N)(j c:Nat):(g,j*12+7,c)∉LCp g ea ns J:=by
 intro hm;rcases Pq hm with⟨_,_,h3⟩|⟨i,ad,h1,h2,h3,h4⟩
 .exact h3 j rfl
 rcases h.en i (by omega)with e|⟨b,o,e,hne,_⟩
 .omega
 rw[e]at h3;cases h3
 exact hne h4.symm
theorem xL{W:World}{g N:Nat}{ea:Nat->OA}{ns ec:Nat->Nat}(h:AnW 12 7 2 W g N ea ns ec){J b o:Nat}(hJ:J<N)(hn:0<ns J)(he:ea J=(O b o))(p c:Nat):(b,p,c)∉LCp g ea ns J:=by
 intro hm;rcases Pq hm with⟨h1,_,_⟩|⟨i,ad,h1,h2,h3,h4⟩
 .rcases h.en J hJ with e|⟨b',o',e,hne,_⟩
  .omega
  rw[e]at he;cases he
  exact hne h1
 rcases h.en i (by omega)with e|⟨b',o',e,_⟩
 .omega
 rw[e]at h3;cases h3
 exact h.ap i J b' o' b o h1 hJ h2 hn e he h4.symm
theorem eV{W:World}{g N:Nat}{ea:Nat->OA}{ns ec:Nat->Nat}(h:AnW 12 7 2 W g N ea ns ec){J:Nat}(hJ:J<N):(LLk (ea J) (ns J)).length=ns J*2:=by
 rcases h.en J hJ with e|⟨b,o,e,_⟩
 .rw[e,Ik];rfl
 rw[e,Gy]
theorem qF{W:World}{g N:Nat}{ea:Nat->OA}{ns ec:Nat->Nat}(h:AnW 12 7 2 W g N ea ns ec){J b o:Nat}(hJ:J<N)(hn:0<ns J)(he:ea J=(O b o)):b≠g:=by
 rcases h.en J hJ with e|⟨b',o',e,hne,_⟩
 .omega
 rw[e]at he;cases he
 exact hne
theorem jG{W w:World}{g N:Nat}{ea:Nat->OA}{ns ec:Nat->Nat}{L:List (Nat×Nat×Nat)}{k:Nat}(h:AnW 12 7 2 W g N ea ns ec){J:Nat}(hJ:J<N)(cap:Nat)(hW:Wr L W w)(hM:Mk w L k)(hf:∀b o p c,0<ns J->ea J=(O b o)->(b,p,c)∈L->False)(T:Nat)(hT:T=k+L.length)(h0:0<T)(h1:T+ns J*2<=1073741824) :
  Calls prog 75 #[.slice (ea J) (ns J) cap,X (T:Int)] w λe w'=>e=.returned (X ((T+ns J*2:Nat):Int))/\Wr (L++LLk (ea J) (ns J)) W w'/\Mk w' (L++LLk (ea J) (ns J)) k:=by
 rcases h.en J hJ with e|⟨b,o,e,hne,hbl,hE⟩
 .rw[e,Ik,List.append_nil]
  refine(Py (ea J) cap T w).mono ?_;rintro e' w' ⟨rfl,rfl⟩;exact⟨rfl,hW,hM⟩
 by_cases hz:ns J=0
 .rw[hz,Ik,List.append_nil]
  refine(Py (ea J) cap T w).mono ?_;rintro e' w' ⟨rfl,rfl⟩;exact⟨rfl,hW,hM⟩
 rw[e];refine(cF b o (ns J) cap T w (by have h9:=hE.wr hW hbl;simpa using h9) (lL hbl hW.size) h0 h1).mono ?_;rintro e' w' ⟨rfl,hW2,hM2⟩;refine⟨rfl,hW.trans hW2,Mk.app (hM.wr hW2 (λx p c c' h8 h9=>?_)) (by rw[<-hT];exact hM2)⟩;have:=Tn h9;rw[this.1]at h8;exact hf b o p c (by omega) e h8
theorem aM(g N:Nat)(ea:Nat->OA)(ns ec:Nat->Nat)(cap k:Nat)(w:World)(hA:AnW 12 7 2 w g N ea ns ec)(hN:N<=1048576)(h0:0<k)(h1:k+(LCp g ea ns N).length<=1073741824) :
  Calls prog 34 #[sP g 0 N cap,X k] w λe w'=>e=.returned (X ((k+(LCp g ea ns N).length:Nat):Int))/\Wr (LCp g ea ns N) w w'/\Mk w' (LCp g ea ns N) k:=by
 have HA:=iH hA;have H1:=iH h1;clear hA h1;go_enter func34,ntmps34
 go_wp2
 go_loopw [1,5] (λv i wr=>∃J:Nat,J<=N/\i=X J/\v=X ((k+(LCp g ea ns J).length:Nat):Int)/\Hid (Wr (LCp g ea ns J) w wr)/\Hid (Mk wr (LCp g ea ns J) k)) (λ_ i _=>N-(intOf i).toNat)
 case atStart=>exact⟨0,zL,rfl,rfl,Wr.refl _,Mk.nil _ _⟩
 obtain⟨J,hj,rfl,rfl,hW,hM⟩:=hrel;by_cases hlt:J<N
 .have i0:(0:Int)<=(J:Int):=by omega
  have i1:(J:Int)<(N:Int):=by omega
  obtain⟨T0,hT0⟩:∃T:Nat,T=k+(LCp g ea ns J).length:=⟨_,rfl⟩;rw[<-hT0];have HNS:=iH (eV HA hlt);have HLJ:Hid ((LCp g ea ns (J+1)).length=(LCp g ea ns J).length+11+ns J*2):=by show _=_;have h9:=HNS.out;simp only[LCp,List.length_append,List.length_cons,List.length_nil];omega
  have hTb:0<T0/\T0+11+ns J*2<=1073741824:=by have h8:=Vw g ea ns (J+1) N (by omega);have h9:=HLJ.out;have h7:=H1.out;omega
  have HT0:=iH hT0;have HNI:Hid (∀i c,(g,J*12+i,c)∉LCp g ea ns J):=wR HA (by omega);have HNS2:Hid (∀p c,(g,p,c)∉LLk (ea J) (ns J)):=xE HA hlt;clear hT0;go_wp2_with fail;refine(Ao T0 _ (by omega) (by omega)).mono ?_;rintro e wa0⟨rfl,hb⟩;replace hW:=iH (hW.out.below hb);replace hM:=iH (hM.out.below hb);clear hb;obtain⟨u0,d0⟩:∃u,wa0.cell? (E g (J*12))=some u:=by obtain⟨u,hu⟩:=HA.out.row (J*12) (by omega);exact hW.out.there g _ u hu
  have g0:wa0.frozen? (E g (J*12))=false:=(hW.out.frozen g _ HA.out.lt).trans (HA.out.rfz _);have hM0:=iH (hM.out.set (b:=g) (o:=J*12) (c:=0) (v:=Y (Bp T0)) (λc' hm=>by exact HNI.out 0 c' hm) d0 (by show _=mvK 0 _;rw[show k+List.length _=T0 by have e0:=HT0.out; omega];rfl));have hW0:=iH (hW.out.set g (J*12) 0 (Y (Bp T0)));go_upto_region 5 with fail;clear d0 g0 hM hW;have hM:=hM0;have hW:=hW0;clear hM0 hW0;generalize wa0.setCell (E g (J*12)) (Y (Bp T0))=wb0 at *;go_upto_region 6 with fail;obtain⟨T1,hT1⟩:∃T:Nat,T=T0+1:=⟨_,rfl⟩;rw[Aq hT1];have HT1:=iH hT1;have hTb1:0<T1/\T1+10+ns J*2<=1073741824:=by omega
  clear hT1;go_wp2_with fail;refine(Ao T1 _ (by omega) (by omega)).mono ?_;rintro e wa1⟨rfl,hb⟩;replace hW:=iH (hW.out.below hb);replace hM:=iH (hM.out.below hb);clear hb;obtain⟨u1,d1⟩:∃u,wa1.cell? (E g (J*12+1))=some u:=by obtain⟨u,hu⟩:=HA.out.row (J*12+1) (by omega);exact hW.out.there g _ u hu
  have g1:wa1.frozen? (E g (J*12+1))=false:=(hW.out.frozen g _ HA.out.lt).trans (HA.out.rfz _);have hM1:=iH (hM.out.set (b:=g) (o:=J*12+1) (c:=0) (v:=Y (Bp T1)) (λc' hm=>by have n1:=HNI.out 1 c';simp[n1]at hm) d1 (by show _=mvK 0 _;rw[show k+List.length _=T1 by have e0:=HT0.out;have e1:=HT1.out;simp only[List.length_append,List.length_cons,List.length_nil];omega];rfl));have hW1:=iH (hW.out.set g (J*12+1) 0 (Y (Bp T1)));go_upto_region 7 with fail;clear d1 g1 hM hW;have hM:=hM1;have hW:=hW1;clear hM1 hW1;generalize wa1.setCell (E g (J*12+1)) (Y (Bp T1))=wb1 at *;go_upto_region 8 with fail;obtain⟨T2,hT2⟩:∃T:Nat,T=T1+1:=⟨_,rfl⟩;rw[Aq hT2];have HT2:=iH hT2;have hTb2:0<T2/\T2+9+ns J*2<=1073741824:=by omega
  clear hT2;obtain⟨u2,d2⟩:∃u,wb1.cell? (E g (J*12+2))=some u:=by obtain⟨u,hu⟩:=HA.out.row (J*12+2) (by omega);exact hW.out.there g _ u hu
  have g2:wb1.frozen? (E g (J*12+2))=false:=(hW.out.frozen g _ HA.out.lt).trans (HA.out.rfz _);have hM2:=iH (hM.out.set (b:=g) (o:=J*12+2) (c:=1) (v:=X ((T2:Nat):Int)) (λc' hm=>by have n1:=HNI.out 2 c';simp[n1]at hm) d2 (by show _=mvK 1 _;rw[show k+List.length _=T2 by have e0:=HT0.out;have e1:=HT1.out;have e2:=HT2.out;simp only[List.length_append,List.length_cons,List.length_nil];omega];rfl));have hW2:=iH (hW.out.set g (J*12+2) 1 (X ((T2:Nat):Int)));go_upto_region 9 with fail;clear d2 g2 hM hW;have hM:=hM2;have hW:=hW2;clear hM2 hW2;generalize wb1.setCell (E g (J*12+2)) (X ((T2:Nat):Int))=wb2 at *;go_upto_region 10 with fail;obtain⟨T3,hT3⟩:∃T:Nat,T=T2+1:=⟨_,rfl⟩;rw[Aq hT3];have HT3:=iH hT3;have hTb3:0<T3/\T3+8+ns J*2<=1073741824:=by omega
  clear hT3;obtain⟨u3,d3⟩:∃u,wb2.cell? (E g (J*12+3))=some u:=by obtain⟨u,hu⟩:=HA.out.row (J*12+3) (by omega);exact hW.out.there g _ u hu
  have g3:wb2.frozen? (E g (J*12+3))=false:=(hW.out.frozen g _ HA.out.lt).trans (HA.out.rfz _);have hM3:=iH (hM.out.set (b:=g) (o:=J*12+3) (c:=1) (v:=X ((T3:Nat):Int)) (λc' hm=>by have n1:=HNI.out 3 c';simp[n1]at hm) d3 (by show _=mvK 1 _;rw[show k+List.length _=T3 by have e0:=HT0.out;have e1:=HT1.out;have e2:=HT2.out;have e3:=HT3.out;simp only[List.length_append,List.length_cons,List.length_nil];omega];rfl));have hW3:=iH (hW.out.set g (J*12+3) 1 (X ((T3:Nat):Int)));go_upto_region 11 with fail;clear d3 g3 hM hW;have hM:=hM3;have hW:=hW3;clear hM3 hW3;generalize wb2.setCell (E g (J*12+3)) (X ((T3:Nat):Int))=wb3 at *;go_upto_region 12 with fail;obtain⟨T4,hT4⟩:∃T:Nat,T=T3+1:=⟨_,rfl⟩;rw[Aq hT4];have HT4:=iH hT4;have hTb4:0<T4/\T4+7+ns J*2<=1073741824:=by omega
  clear hT4;obtain⟨u4,d4⟩:∃u,wb3.cell? (E g (J*12+4))=some u:=by obtain⟨u,hu⟩:=HA.out.row (J*12+4) (by omega);exact hW.out.there g _ u hu
  have g4:wb3.frozen? (E g (J*12+4))=false:=(hW.out.frozen g _ HA.out.lt).trans (HA.out.rfz _);have hM4:=iH (hM.out.set (b:=g) (o:=J*12+4) (c:=1) (v:=X ((T4:Nat):Int)) (λc' hm=>by have n1:=HNI.out 4 c';simp[n1]at hm) d4 (by show _=mvK 1 _;rw[show k+List.length _=T4 by have e0:=HT0.out;have e1:=HT1.out;have e2:=HT2.out;have e3:=HT3.out;have e4:=HT4.out;simp only[List.length_append,List.length_cons,List.length_nil];omega];rfl));have hW4:=iH (hW.out.set g (J*12+4) 1 (X ((T4:Nat):Int)));go_upto_region 13 with fail;clear d4 g4 hM hW;have hM:=hM4;have hW:=hW4;clear hM4 hW4;generalize wb3.setCell (E g (J*12+4)) (X ((T4:Nat):Int))=wb4 at *;go_upto_region 14 with fail;obtain⟨T5,hT5⟩:∃T:Nat,T=T4+1:=⟨_,rfl⟩;rw[Aq hT5];have HT5:=iH hT5;have hTb5:0<T5/\T5+6+ns J*2<=1073741824:=by omega
  clear hT5;obtain⟨u5,d5⟩:∃u,wb4.cell? (E g (J*12+5))=some u:=by obtain⟨u,hu⟩:=HA.out.row (J*12+5) (by omega);exact hW.out.there g _ u hu
  have g5:wb4.frozen? (E g (J*12+5))=false:=(hW.out.frozen g _ HA.out.lt).trans (HA.out.rfz _);have hM5:=iH (hM.out.set (b:=g) (o:=J*12+5) (c:=1) (v:=X ((T5:Nat):Int)) (λc' hm=>by have n1:=HNI.out 5 c';simp[n1]at hm) d5 (by show _=mvK 1 _;rw[show k+List.length _=T5 by have e0:=HT0.out;have e1:=HT1.out;have e2:=HT2.out;have e3:=HT3.out;have e4:=HT4.out;have e5:=HT5.out;simp only[List.length_append,List.length_cons,List.length_nil];omega];rfl));have hW5:=iH (hW.out.set g (J*12+5) 1 (X ((T5:Nat):Int)));go_upto_region 15 with fail;clear d5 g5 hM hW;have hM:=hM5;have hW:=hW5;clear hM5 hW5;generalize wb4.setCell (E g (J*12+5)) (X ((T5:Nat):Int))=wb5 at *;go_upto_region 16 with fail;obtain⟨T6,hT6⟩:∃T:Nat,T=T5+1:=⟨_,rfl⟩;rw[Aq hT6];have HT6:=iH hT6;have hTb6:0<T6/\T6+5+ns J*2<=1073741824:=by omega
  clear hT6;go_wp2_with fail;refine(Ao T6 _ (by omega) (by omega)).mono ?_;rintro e wa6⟨rfl,hb⟩;replace hW:=iH (hW.out.below hb);replace hM:=iH (hM.out.below hb);clear hb;obtain⟨u6,d6⟩:∃u,wa6.cell? (E g (J*12+6))=some u:=by obtain⟨u,hu⟩:=HA.out.row (J*12+6) (by omega);exact hW.out.there g _ u hu
  have g6:wa6.frozen? (E g (J*12+6))=false:=(hW.out.frozen g _ HA.out.lt).trans (HA.out.rfz _);have hM6:=iH (hM.out.set (b:=g) (o:=J*12+6) (c:=0) (v:=Y (Bp T6)) (λc' hm=>by have n1:=HNI.out 6 c';simp[n1]at hm) d6 (by show _=mvK 0 _;rw[show k+List.length _=T6 by have e0:=HT0.out;have e1:=HT1.out;have e2:=HT2.out;have e3:=HT3.out;have e4:=HT4.out;have e5:=HT5.out;have e6:=HT6.out;simp only[List.length_append,List.length_cons,List.length_nil];omega];rfl));have hW6:=iH (hW.out.set g (J*12+6) 0 (Y (Bp T6)));go_upto_region 17 with fail;clear d6 g6 hM hW;have hM:=hM6;have hW:=hW6;clear hM6 hW6;generalize wa6.setCell (E g (J*12+6)) (Y (Bp T6))=wb6 at *;go_upto_region 18 with fail;obtain⟨T7,hT7⟩:∃T:Nat,T=T6+1:=⟨_,rfl⟩;rw[Aq hT7];have HT7:=iH hT7;have hTb7:0<T7/\T7+4+ns J*2<=1073741824:=by omega
  clear hT7;have c2:wb6.cell? (E g (J*12+7))=some (.slice (ea J) (ns J) (ec J)):=(hW.out.cell g _ HA.out.lt (λc hm=>by have n1:=gA HA (J:=J) (by omega) J c;simp[n1]at hm)).trans (HA.out.sl J hlt);have hz9:J<N:=hlt;go_wp2_with fail;refine(jG HA hlt (ec J) hW.out hM.out (λb o p c hn he hm=>by have n1:=xL HA hlt hn he p c;have n2:b≠g:=qF HA hlt hn he;simp[n1,n2]at hm) T7 (by have e0:=HT0.out;have e1:=HT1.out;have e2:=HT2.out;have e3:=HT3.out;have e4:=HT4.out;have e5:=HT5.out;have e6:=HT6.out;have e7:=HT7.out;simp only[List.length_append,List.length_cons,List.length_nil];omega) (by omega) (by omega)).mono ?_;rintro e w5⟨rfl,hW5,hM5⟩;replace hW:=iH hW5;replace hM:=iH hM5;clear hW5 hM5 c2;obtain⟨T8,hT8⟩:∃T:Nat,T=T7+ns J*2:=⟨_,rfl⟩;rw[<-hT8];have HT8:=iH hT8;have hTb8:0<T8/\T8+4<=1073741824:=by omega
  clear hT8;go_upto_region 19 with fail;obtain⟨u8,d8⟩:∃u,w5.cell? (E g (J*12+8))=some u:=by obtain⟨u,hu⟩:=HA.out.row (J*12+8) (by omega);exact hW.out.there g _ u hu
  have g8:w5.frozen? (E g (J*12+8))=false:=(hW.out.frozen g _ HA.out.lt).trans (HA.out.rfz _);have hM8:=iH (hM.out.set (b:=g) (o:=J*12+8) (c:=1) (v:=X ((T8:Nat):Int)) (λc' hm=>by have n1:=HNI.out 8 c';have n2:=HNS2.out (J*12+8) c';simp[n1,n2]at hm) d8 (by show _=mvK 1 _;rw[show k+List.length _=T8 by have e0:=HT0.out;have e9:=HNS.out;have e1:=HT1.out;have e2:=HT2.out;have e3:=HT3.out;have e4:=HT4.out;have e5:=HT5.out;have e6:=HT6.out;have e7:=HT7.out;have e8:=HT8.out;simp only[List.length_append,List.length_cons,List.length_nil];omega];rfl));have hW8:=iH (hW.out.set g (J*12+8) 1 (X ((T8:Nat):Int)));go_upto_region 20 with fail;clear d8 g8 hM hW;have hM:=hM8;have hW:=hW8;clear hM8 hW8;generalize w5.setCell (E g (J*12+8)) (X ((T8:Nat):Int))=wb8 at *;go_upto_region 21 with fail;obtain⟨T9,hT9⟩:∃T:Nat,T=T8+1:=⟨_,rfl⟩;rw[Aq hT9];have HT9:=iH hT9;have hTb9:0<T9/\T9+3<=1073741824:=by omega
  clear hT9;go_wp2_with fail;refine(Ao T9 _ (by omega) (by omega)).mono ?_;rintro e wa9⟨rfl,hb⟩;replace hW:=iH (hW.out.below hb);replace hM:=iH (hM.out.below hb);clear hb;obtain⟨u9,d9⟩:∃u,wa9.cell? (E g (J*12+9))=some u:=by obtain⟨u,hu⟩:=HA.out.row (J*12+9) (by omega);exact hW.out.there g _ u hu
  have g9:wa9.frozen? (E g (J*12+9))=false:=(hW.out.frozen g _ HA.out.lt).trans (HA.out.rfz _);have hM9:=iH (hM.out.set (b:=g) (o:=J*12+9) (c:=0) (v:=Y (Bp T9)) (λc' hm=>by have n1:=HNI.out 9 c';have n2:=HNS2.out (J*12+9) c';simp[n1,n2]at hm) d9 (by show _=mvK 0 _;rw[show k+List.length _=T9 by have e0:=HT0.out;have e9:=HNS.out;have e1:=HT1.out;have e2:=HT2.out;have e3:=HT3.out;have e4:=HT4.out;have e5:=HT5.out;have e6:=HT6.out;have e7:=HT7.out;have e8:=HT8.out;have e9:=HT9.out;simp only[List.length_append,List.length_cons,List.length_nil];omega];rfl));have hW9:=iH (hW.out.set g (J*12+9) 0 (Y (Bp T9)));go_upto_region 22 with fail;clear d9 g9 hM hW;have hM:=hM9;have hW:=hW9;clear hM9 hW9;generalize wa9.setCell (E g (J*12+9)) (Y (Bp T9))=wb9 at *;go_upto_region 23 with fail;obtain⟨T10,hT10⟩:∃T:Nat,T=T9+1:=⟨_,rfl⟩;rw[Aq hT10];have HT10:=iH hT10;have hTb10:0<T10/\T10+2<=1073741824:=by omega
  clear hT10;go_wp2_with fail;refine(Ao T10 _ (by omega) (by omega)).mono ?_;rintro e wa10⟨rfl,hb⟩;replace hW:=iH (hW.out.below hb);replace hM:=iH (hM.out.below hb);clear hb;obtain⟨u10,d10⟩:∃u,wa10.cell? (E g (J*12+10))=some u:=by obtain⟨u,hu⟩:=HA.out.row (J*12+10) (by omega);exact hW.out.there g _ u hu
  have g10:wa10.frozen? (E g (J*12+10))=false:=(hW.out.frozen g _ HA.out.lt).trans (HA.out.rfz _);have hM10:=iH (hM.out.set (b:=g) (o:=J*12+10) (c:=0) (v:=Y (Bp T10)) (λc' hm=>by have n1:=HNI.out 10 c';have n2:=HNS2.out (J*12+10) c';simp[n1,n2]at hm) d10 (by show _=mvK 0 _;rw[show k+List.length _=T10 by have e0:=HT0.out;have e9:=HNS.out;have e1:=HT1.out;have e2:=HT2.out;have e3:=HT3.out;have e4:=HT4.out;have e5:=HT5.out;have e6:=HT6.out;have e7:=HT7.out;have e8:=HT8.out;have e9:=HT9.out;have e10:=HT10.out;simp only[List.length_append,List.length_cons,List.length_nil];omega];rfl));have hW10:=iH (hW.out.set g (J*12+10) 0 (Y (Bp T10)));go_upto_region 24 with fail;clear d10 g10 hM hW;have hM:=hM10;have hW:=hW10;clear hM10 hW10;generalize wa10.setCell (E g (J*12+10)) (Y (Bp T10))=wb10 at *;go_upto_region 25 with fail;obtain⟨T11,hT11⟩:∃T:Nat,T=T10+1:=⟨_,rfl⟩;rw[Aq hT11];have HT11:=iH hT11;have hTb11:0<T11/\T11+1<=1073741824:=by omega
  clear hT11;go_wp2_with fail;refine(Ao T11 _ (by omega) (by omega)).mono ?_;rintro e wa11⟨rfl,hb⟩;replace hW:=iH (hW.out.below hb);replace hM:=iH (hM.out.below hb);clear hb;obtain⟨u11,d11⟩:∃u,wa11.cell? (E g (J*12+11))=some u:=by obtain⟨u,hu⟩:=HA.out.row (J*12+11) (by omega);exact hW.out.there g _ u hu
  have g11:wa11.frozen? (E g (J*12+11))=false:=(hW.out.frozen g _ HA.out.lt).trans (HA.out.rfz _);have hM11:=iH (hM.out.set (b:=g) (o:=J*12+11) (c:=0) (v:=Y (Bp T11)) (λc' hm=>by have n1:=HNI.out 11 c';have n2:=HNS2.out (J*12+11) c';simp[n1,n2]at hm) d11 (by show _=mvK 0 _;rw[show k+List.length _=T11 by have e0:=HT0.out;have e9:=HNS.out;have e1:=HT1.out;have e2:=HT2.out;have e3:=HT3.out;have e4:=HT4.out;have e5:=HT5.out;have e6:=HT6.out;have e7:=HT7.out;have e8:=HT8.out;have e9:=HT9.out;have e10:=HT10.out;have e11:=HT11.out;simp only[List.length_append,List.length_cons,List.length_nil];omega];rfl));have hW11:=iH (hW.out.set g (J*12+11) 0 (Y (Bp T11)));have HMf:Hid (Mk (wa11.setCell (E g (J*12+11)) (Y (Bp T11))) (LCp g ea ns (J+1)) k):=by have h:=hM11.out;show Mk _ _ _;simpa[LCp]using h
  have HWf:Hid (Wr (LCp g ea ns (J+1)) w (wa11.setCell (E g (J*12+11)) (Y (Bp T11)))):=by have h:=hW11.out;show Wr _ _ _;simpa[LCp]using h
  clear hM hW hM11 hW11
  go_wp2
  go_roundw
  case rel=>exact⟨J+1,by omega,by go_num,by have e0:=HT0.out;have e9:=HLJ.out;have e1:=HT1.out;have e2:=HT2.out;have e3:=HT3.out;have e4:=HT4.out;have e5:=HT5.out;have e6:=HT6.out;have e7:=HT7.out;have e8:=HT8.out;have e9:=HT9.out;have e10:=HT10.out;have e11:=HT11.out;congr 1;omega,HWf,HMf⟩
  simp[intOf];omega
 have hje:J=N:=by omega
 subst hje
 go_wp2
 go_ret;exact⟨rfl,hW.out,hM.out⟩
end Go.Proofs.YthboopnmbglkjaaGreat
