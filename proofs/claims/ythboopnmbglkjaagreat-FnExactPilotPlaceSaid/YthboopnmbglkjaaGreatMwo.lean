import Derived.Test.YthboopnmbglkjaaGreatMwn
set_option maxHeartbeats 4000000
namespace Go.Proofs.YthboopnmbglkjaaGreat
open Tryz
set_option maxRecDepth 100000
open Go.RowKit Tryz
theorem Pz(a:OA)(cap T:Nat)(w:World) :
  Calls prog 40 #[.slice a 0 cap,X (T:Int)] w (Rt (X (T:Int)) w):=by
 go_enter func40,ntmps40
 go_wp2
 go_loopw [1,5] (λv i wr=>v=X (T:Int)/\i=X 0/\wr=w) (λ_ _ _=>0)
 case atStart=>exact⟨rfl,rfl,rfl⟩
 obtain⟨rfl,rfl,rfl⟩:=hrel
 go_wp2
 go_ret;exact⟨rfl,Below.refl _ _⟩
theorem bQ(a:OA)(cap T:Nat)(w:World) :
  Calls prog 76 #[.slice a 0 cap,X (T:Int)] w (Rt (X (T:Int)) w):=by
 go_enter func76,ntmps76
 go_wp2
 go_loopw [1,5] (λv i wr=>v=X (T:Int)/\i=X 0/\wr=w) (λ_ _ _=>0)
 case atStart=>exact⟨rfl,rfl,rfl⟩
 obtain⟨rfl,rfl,rfl⟩:=hrel
 go_wp2
 go_ret;exact⟨rfl,Below.refl _ _⟩
theorem lO(g:Nat)(ea:Nat->OA)(ns:Nat->Nat)(J:Nat):∀N,J<=N->∃M,LBr g ea ns N=LBr g ea ns J++M
 |0,h=>⟨[],by rw[show J=0 by omega];rfl⟩
 |N+1,h=>by
  by_cases e:J=N+1
  .exact⟨[],by rw[e,List.append_nil]⟩
  obtain⟨M,hM⟩:=lO g ea ns J N (by omega);refine⟨M++(LBr g ea ns (N+1)).drop (LBr g ea ns N).length,?_⟩;rw[<-List.append_assoc,<-hM];simp[LBr]
theorem zH{w:World}{g N k:Nat}{ea:Nat->OA}{ns:Nat->Nat}(h:Mk w (LBr g ea ns N) k){J:Nat}(hJ:J<N):Mk w ([(g,J*6,0),(g,J*6+1,0)]++(LS (ea J) (ns J)++[(g,J*6+3,1),(g,J*6+4,1),(g,J*6+5,2)])) (k+(LBr g ea ns J).length):=by
 obtain⟨M,hM⟩:=lO g ea ns (J+1) N (by omega);rw[hM]at h;have h2:Mk w (LBr g ea ns J++([(g,J*6,0),(g,J*6+1,0)]++(LS (ea J) (ns J)++[(g,J*6+3,1),(g,J*6+4,1),(g,J*6+5,2)]))) k:=h.left;exact h2.right
theorem dM{w:World}{ea:Nat->OA}{ns:Nat->Nat}{J:Nat}(he:ns J=0\/∃b o,ea J=(O b o))(cap T:Nat)(hM:Mk w (LS (ea J) (ns J)) T)(h0:0<T)(h1:T+ns J<=1073741824) :
  Calls prog 40 #[.slice (ea J) (ns J) cap,X (T:Int)] w (Rt (X ((T+ns J:Nat):Int)) w):=by
 rcases he with e|⟨b,o,e⟩
 .rw[e]
  exact Pz (ea J) cap T w
 rw[e]at hM⊢;exact cX b o (ns J) cap T w hM h0 h1
theorem sU{ea:Nat->OA}{ns:Nat->Nat}{J:Nat}(he:ns J=0\/∃b o,ea J=(O b o)):(LS (ea J) (ns J)).length=ns J:=by
 rcases he with e|⟨b,o,e⟩
 .rw[e,Nt];rfl
 rw[e,kA]
theorem aQ(g N:Nat)(ea:Nat->OA)(ns ec:Nat->Nat)(cap k:Nat)(w:World)(hM:Mk w (LBr g ea ns N) k)(hS:∀j,j<N->w.cell? (E g (j*6+2))=some (.slice (ea j) (ns j) (ec j)))(he:∀j,j<N->ns j=0\/∃b o,ea j=(O b o))(hN:N<=1048576)(h0:0<k)(h1:k+(LBr g ea ns N).length<=1073741824) :
  Calls prog 37 #[sP g 0 N cap,X k] w (Rt (X ((k+(LBr g ea ns N).length:Nat):Int)) w):=by
 have HM:=iH hM;have HS:=iH hS;have HE:=iH he;have H1:=iH h1;clear hM hS he h1;go_enter func37,ntmps37
 go_wp2
 go_loopw [1,5] (λv i wr=>∃J:Nat,J<=N/\i=X J/\v=X ((k+(LBr g ea ns J).length:Nat):Int)/\Hid (bW w wr)) (λ_ i _=>N-(intOf i).toNat)
 case atStart=>exact⟨0,zL,rfl,rfl,Below.refl _ _⟩
 obtain⟨J,hj,rfl,rfl,hB⟩:=hrel;by_cases hlt:J<N
 .have i0:(0:Int)<=(J:Int):=by omega
  have i1:(J:Int)<(N:Int):=by omega
  have HEL:=iH (zH HM hlt);have hej:=HE.out J hlt;have HNS:=iH (sU hej);obtain⟨T0,hT0⟩:∃T:Nat,T=k+(LBr g ea ns J).length:=⟨_,rfl⟩;rw[<-hT0]at HEL⊢;have HLJ:Hid ((LBr g ea ns (J+1)).length=(LBr g ea ns J).length+5+ns J):=by show _=_;have h9:=HNS.out;simp only[LBr,List.length_append,List.length_cons,List.length_nil];omega
  have hTb:0<T0/\T0+5+ns J<=1073741824:=by have h8:=Us g ea ns (J+1) N (by omega);have h9:=HLJ.out;have h7:=H1.out;omega
  have HT0:=iH hT0;clear hT0;have HSU:Hid (Mk w (LS (ea J) (ns J)) (T0+2)):=HEL.out.right.left;have HPO:Hid (Mk w [(g,J*6+3,1),(g,J*6+4,1),(g,J*6+5,2)] (T0+2+ns J)):=by have h:=HEL.out.right.right;rw[HNS.out]at h;exact h
  have D0:Hid (w.cell? (E g (J*6))=some (mvK 0 (T0+0))):=HEL.out 0 g (J*6) 0 rfl;have D1:Hid (w.cell? (E g (J*6+1))=some (mvK 0 (T0+1))):=HEL.out 1 g (J*6+1) 0 rfl;have D3:Hid (w.cell? (E g (J*6+3))=some (mvK 1 (T0+2+ns J+0))):=HPO.out 0 g (J*6+3) 1 rfl;have D4:Hid (w.cell? (E g (J*6+4))=some (mvK 1 (T0+2+ns J+1))):=HPO.out 1 g (J*6+4) 1 rfl;have D5:Hid (w.cell? (E g (J*6+5))=some (mvK 2 (T0+2+ns J+2))):=HPO.out 2 g (J*6+5) 2 rfl;clear HEL HPO;have c0:wr.cell? (E g (J*6))=some (Y (Bp T0)):=by have h:=(hB.out.cell (p:=(E g (J*6))) (block_lt_of_cell D0)).trans D0;rw[show T0+0=T0 by  omega]at h;exact h
  go_upto_region 4 with fail;refine wp_region_held_drew (S:=λwy=>wy.cell? (E g (J*6))=some (Y (Bp T0))) (by kernel_rfl) c0 (λhS=>?_);refine tz 0 12 (sP g 0 N cap) ?_;refine tz 1 13 (X (J:Int)) ?_;refine ty 2 ⟨some 14,_,_,_,_,none⟩ (pP g (J*6)) ?_ ?_
  .intro wy hy
   clear hy
   first|(go_simp;done)|(go_simp;intro hh;omega)|(go_simp;omega)
  refine tz 3 15 (pP g (J*6)) ?_;refine ty 4 ⟨some 16,_,_,_,_,none⟩ (Y (Bp T0)) ?_ ?_
  .intro wy hy
   have h9:=hy;clear hy;go_simp
  refine tz 5 17 (X ((T0:Nat):Int)) ?_;refine rd1 6 ⟨some 18,_,_,_,_,none⟩ rfl (λK hK=>?_);go_simp;refine(Ao T0 _ (by omega) (by omega)).mono ?_;rintro e wa0⟨rfl,hb1⟩;have hd:bW wr wa0:=(Below.refl _ wr).drew.trans hb1;replace hB:=qTH hB hd;refine hK.out _ _ ((hd.cell (p:=(E g (J*6))) (block_lt_of_cell c0)).trans c0) (λhS=>?_);clear hK K hb1 hd c0;refine tz 7 19 (.bool false) ?_;refine td ?_;clear hS;go_upto_region 7 with fail;obtain⟨T1,hT1⟩:∃T:Nat,T=T0+1:=⟨_,rfl⟩;rw[Aq hT1];have HT1:=iH hT1;have hTb1:0<T1/\T1+4+ns J<=1073741824:=by omega
  clear hT1;have c1:wa0.cell? (E g (J*6+1))=some (Y (Bp T1)):=by have h:=(hB.out.cell (p:=(E g (J*6+1))) (block_lt_of_cell D1)).trans D1;rw[show T0+1=T1 by have e1:=HT1.out;omega]at h;exact h
  go_upto_region 7 with fail;refine wp_region_held_drew (S:=λwy=>wy.cell? (E g (J*6+1))=some (Y (Bp T1))) (by kernel_rfl) c1 (λhS=>?_);refine tz 0 22 (sP g 0 N cap) ?_;refine tz 1 23 (X (J:Int)) ?_;refine ty 2 ⟨some 24,_,_,_,_,none⟩ (pP g (J*6)) ?_ ?_
  .intro wy hy
   clear hy
   first|(go_simp;done)|(go_simp;intro hh;omega)|(go_simp;omega)
  refine tz 3 25 (pP g (J*6+1)) ?_;refine ty 4 ⟨some 26,_,_,_,_,none⟩ (Y (Bp T1)) ?_ ?_
  .intro wy hy
   have h9:=hy;clear hy;go_simp
  refine tz 5 27 (X ((T1:Nat):Int)) ?_;refine rd1 6 ⟨some 28,_,_,_,_,none⟩ rfl (λK hK=>?_);go_simp;refine(Ao T1 _ (by omega) (by omega)).mono ?_;rintro e wa1⟨rfl,hb1⟩;have hd:bW wa0 wa1:=(Below.refl _ wa0).drew.trans hb1;replace hB:=qTH hB hd;refine hK.out _ _ ((hd.cell (p:=(E g (J*6+1))) (block_lt_of_cell c1)).trans c1) (λhS=>?_);clear hK K hb1 hd c1;refine tz 7 29 (.bool false) ?_;refine td ?_;clear hS;go_upto_region 10 with fail;obtain⟨T2,hT2⟩:∃T:Nat,T=T1+1:=⟨_,rfl⟩;rw[Aq hT2];have HT2:=iH hT2;have hTb2:0<T2/\T2+3+ns J<=1073741824:=by omega
  clear hT2;have c2:wa1.cell? (E g (J*6+2))=some (.slice (ea J) (ns J) (ec J)):=(hB.out.cell (p:=(E g (J*6+2))) (block_lt_of_cell (HS J hlt))).trans (HS J hlt);have HS2:Hid (Mk wa1 (LS (ea J) (ns J)) T2):=by have h:=HSU.out;rw[show T0+2=T2 by have e1:=HT1.out;have e2:=HT2.out;omega]at h;exact λj b o c hj=>(hB.out.cell (p:=(E b o)) (block_lt_of_cell (h j b o c hj))).trans (h j b o c hj)
  go_wp2_with fail;refine(dM hej (ec J) T2 HS2 (by omega) (by omega)).mono ?_;rintro e w5⟨rfl,hb⟩;replace hB:=qTH hB hb;clear hb c2 HS2;obtain⟨T3,hT3⟩:∃T:Nat,T=T2+ns J:=⟨_,rfl⟩;rw[<-hT3];have HT3:=iH hT3;have hTb3:0<T3/\T3+3<=1073741824:=by omega
  clear hT3;go_upto_region 13 with fail;have c3:w5.cell? (E g (J*6+3))=some (X ((T3:Nat):Int)):=by have h:=(hB.out.cell (p:=(E g (J*6+3))) (block_lt_of_cell D3)).trans D3;rw[show T0+2+ns J+0=T3 by have e1:=HT1.out;have e2:=HT2.out;have e3:=HT3.out;omega]at h;exact h
  go_upto_region 16 with fail;clear c3;obtain⟨T4,hT4⟩:∃T:Nat,T=T3+1:=⟨_,rfl⟩;rw[Aq hT4];have HT4:=iH hT4;have hTb4:0<T4/\T4+2<=1073741824:=by omega
  clear hT4;have c4:w5.cell? (E g (J*6+4))=some (X ((T4:Nat):Int)):=by have h:=(hB.out.cell (p:=(E g (J*6+4))) (block_lt_of_cell D4)).trans D4;rw[show T0+2+ns J+1=T4 by have e1:=HT1.out;have e2:=HT2.out;have e3:=HT3.out;have e4:=HT4.out;omega]at h;exact h
  go_upto_region 19 with fail;clear c4;obtain⟨T5,hT5⟩:∃T:Nat,T=T4+1:=⟨_,rfl⟩;rw[Aq hT5];have HT5:=iH hT5;have hTb5:0<T5/\T5+1<=1073741824:=by omega
  clear hT5;have c5:w5.cell? (E g (J*6+5))=some (.bool (decide ((T5:Int).tmod 3=0))):=by have h:=(hB.out.cell (p:=(E g (J*6+5))) (block_lt_of_cell D5)).trans D5;rw[show T0+2+ns J+2=T5 by have e1:=HT1.out;have e2:=HT2.out;have e3:=HT3.out;have e4:=HT4.out;have e5:=HT5.out;omega]at h;exact h
  by_cases hp:(T5:Int).tmod 3=0
  .rw[decide_eq_true hp]at c5
   go_wp2
   go_roundw
   case rel=>exact⟨J+1,by omega,by go_num,by have e0:=HT0.out;have e9:=HLJ.out;have e1:=HT1.out;have e2:=HT2.out;have e3:=HT3.out;have e4:=HT4.out;have e5:=HT5.out;congr 1;omega,hB⟩
   simp[intOf];omega
  rw[decide_eq_false hp]at c5;have hp4:((T5:Int)%3==0)=false:=by rw[Int.tmod_eq_emod_of_nonneg (by omega)]at hp;simpa using hp
  go_wp2
  go_roundw
  case rel=>exact⟨J+1,by omega,by go_num,by have e0:=HT0.out;have e9:=HLJ.out;have e1:=HT1.out;have e2:=HT2.out;have e3:=HT3.out;have e4:=HT4.out;have e5:=HT5.out;congr 1;omega,hB⟩
  simp[intOf];omega
 have hje:J=N:=by omega
 subst hje
 go_wp2
 go_ret;exact⟨rfl,hB.out⟩
theorem mG(g:Nat)(ea:Nat->OA)(ns:Nat->Nat)(J:Nat):∀N,J<=N->∃M,LCp g ea ns N=LCp g ea ns J++M
 |0,h=>⟨[],by rw[show J=0 by omega];rfl⟩
 |N+1,h=>by
  by_cases e:J=N+1
  .exact⟨[],by rw[e,List.append_nil]⟩
  obtain⟨M,hM⟩:=mG g ea ns J N (by omega);refine⟨M++(LCp g ea ns (N+1)).drop (LCp g ea ns N).length,?_⟩;rw[<-List.append_assoc,<-hM];simp[LCp]
theorem zA{w:World}{g N k:Nat}{ea:Nat->OA}{ns:Nat->Nat}(h:Mk w (LCp g ea ns N) k){J:Nat}(hJ:J<N):Mk w ([(g,J*12,0),(g,J*12+1,0),(g,J*12+2,1),(g,J*12+3,1),(g,J*12+4,1),(g,J*12+5,1),(g,J*12+6,0)]++(LLk (ea J) (ns J)++[(g,J*12+8,1),(g,J*12+9,0),(g,J*12+10,0),(g,J*12+11,0)])) (k+(LCp g ea ns J).length):=by
 obtain⟨M,hM⟩:=mG g ea ns (J+1) N (by omega);rw[hM]at h;have h2:Mk w (LCp g ea ns J++([(g,J*12,0),(g,J*12+1,0),(g,J*12+2,1),(g,J*12+3,1),(g,J*12+4,1),(g,J*12+5,1),(g,J*12+6,0)]++(LLk (ea J) (ns J)++[(g,J*12+8,1),(g,J*12+9,0),(g,J*12+10,0),(g,J*12+11,0)]))) k:=h.left;exact h2.right
theorem eB{w:World}{ea:Nat->OA}{ns:Nat->Nat}{J:Nat}(he:ns J=0\/∃b o,ea J=(O b o))(cap T:Nat)(hM:Mk w (LLk (ea J) (ns J)) T)(h0:0<T)(h1:T+ns J*2<=1073741824) :
  Calls prog 76 #[.slice (ea J) (ns J) cap,X (T:Int)] w (Rt (X ((T+ns J*2:Nat):Int)) w):=by
 rcases he with e|⟨b,o,e⟩
 .rw[e]
  exact bQ (ea J) cap T w
 rw[e]at hM⊢;exact bK b o (ns J) cap T w hM h0 h1
theorem nJ{ea:Nat->OA}{ns:Nat->Nat}{J:Nat}(he:ns J=0\/∃b o,ea J=(O b o)):(LLk (ea J) (ns J)).length=ns J*2:=by
 rcases he with e|⟨b,o,e⟩
 .rw[e,Ik];rfl
 rw[e,Gy]
theorem aK(g N:Nat)(ea:Nat->OA)(ns ec:Nat->Nat)(cap k:Nat)(w:World)(hM:Mk w (LCp g ea ns N) k)(hS:∀j,j<N->w.cell? (E g (j*12+7))=some (.slice (ea j) (ns j) (ec j)))(he:∀j,j<N->ns j=0\/∃b o,ea j=(O b o))(hN:N<=1048576)(h0:0<k)(h1:k+(LCp g ea ns N).length<=1073741824) :
  Calls prog 39 #[sP g 0 N cap,X k] w (Rt (X ((k+(LCp g ea ns N).length:Nat):Int)) w):=by
 have HM:=iH hM;have HS:=iH hS;have HE:=iH he;have H1:=iH h1;clear hM hS he h1;go_enter func39,ntmps39
 go_wp2
 go_loopw [1,5] (λv i wr=>∃J:Nat,J<=N/\i=X J/\v=X ((k+(LCp g ea ns J).length:Nat):Int)/\Hid (bW w wr)) (λ_ i _=>N-(intOf i).toNat)
 case atStart=>exact⟨0,zL,rfl,rfl,Below.refl _ _⟩
 obtain⟨J,hj,rfl,rfl,hB⟩:=hrel;by_cases hlt:J<N
 .have i0:(0:Int)<=(J:Int):=by omega
  have i1:(J:Int)<(N:Int):=by omega
  have HEL:=iH (zA HM hlt);have hej:=HE.out J hlt;have HNS:=iH (nJ hej);obtain⟨T0,hT0⟩:∃T:Nat,T=k+(LCp g ea ns J).length:=⟨_,rfl⟩;rw[<-hT0]at HEL⊢;have HLJ:Hid ((LCp g ea ns (J+1)).length=(LCp g ea ns J).length+11+ns J*2):=by show _=_;have h9:=HNS.out;simp only[LCp,List.length_append,List.length_cons,List.length_nil];omega
  have hTb:0<T0/\T0+11+ns J*2<=1073741824:=by have h8:=Vw g ea ns (J+1) N (by omega);have h9:=HLJ.out;have h7:=H1.out;omega
  have HT0:=iH hT0;clear hT0;have HSU:Hid (Mk w (LLk (ea J) (ns J)) (T0+7)):=HEL.out.right.left;have HPO:Hid (Mk w [(g,J*12+8,1),(g,J*12+9,0),(g,J*12+10,0),(g,J*12+11,0)] (T0+7+ns J*2)):=by have h:=HEL.out.right.right;rw[HNS.out]at h;exact h
  have D0:Hid (w.cell? (E g (J*12))=some (mvK 0 (T0+0))):=HEL.out 0 g (J*12) 0 rfl;have D1:Hid (w.cell? (E g (J*12+1))=some (mvK 0 (T0+1))):=HEL.out 1 g (J*12+1) 0 rfl;have D2:Hid (w.cell? (E g (J*12+2))=some (mvK 1 (T0+2))):=HEL.out 2 g (J*12+2) 1 rfl;have D3:Hid (w.cell? (E g (J*12+3))=some (mvK 1 (T0+3))):=HEL.out 3 g (J*12+3) 1 rfl;have D4:Hid (w.cell? (E g (J*12+4))=some (mvK 1 (T0+4))):=HEL.out 4 g (J*12+4) 1 rfl;have D5:Hid (w.cell? (E g (J*12+5))=some (mvK 1 (T0+5))):=HEL.out 5 g (J*12+5) 1 rfl;have D6:Hid (w.cell? (E g (J*12+6))=some (mvK 0 (T0+6))):=HEL.out 6 g (J*12+6) 0 rfl;have D8:Hid (w.cell? (E g (J*12+8))=some (mvK 1 (T0+7+ns J*2+0))):=HPO.out 0 g (J*12+8) 1 rfl;have D9:Hid (w.cell? (E g (J*12+9))=some (mvK 0 (T0+7+ns J*2+1))):=HPO.out 1 g (J*12+9) 0 rfl;have D10:Hid (w.cell? (E g (J*12+10))=some (mvK 0 (T0+7+ns J*2+2))):=HPO.out 2 g (J*12+10) 0 rfl;have D11:Hid (w.cell? (E g (J*12+11))=some (mvK 0 (T0+7+ns J*2+3))):=HPO.out 3 g (J*12+11) 0 rfl;clear HEL HPO;have c0:wr.cell? (E g (J*12))=some (Y (Bp T0)):=by have h:=(hB.out.cell (p:=(E g (J*12))) (block_lt_of_cell D0)).trans D0;rw[show T0+0=T0 by  omega]at h;exact h
  go_upto_region 4 with fail;refine wp_region_held_drew (S:=λwy=>wy.cell? (E g (J*12))=some (Y (Bp T0))) (by kernel_rfl) c0 (λhS=>?_);refine tz 0 12 (sP g 0 N cap) ?_;refine tz 1 13 (X (J:Int)) ?_;refine ty 2 ⟨some 14,_,_,_,_,none⟩ (pP g (J*12)) ?_ ?_
  .intro wy hy
   clear hy
   first|(go_simp;done)|(go_simp;intro hh;omega)|(go_simp;omega)
  refine tz 3 15 (pP g (J*12)) ?_;refine ty 4 ⟨some 16,_,_,_,_,none⟩ (Y (Bp T0)) ?_ ?_
  .intro wy hy
   have h9:=hy;clear hy;go_simp
  refine tz 5 17 (X ((T0:Nat):Int)) ?_;refine rd1 6 ⟨some 18,_,_,_,_,none⟩ rfl (λK hK=>?_);go_simp;refine(Ao T0 _ (by omega) (by omega)).mono ?_;rintro e wa0⟨rfl,hb1⟩;have hd:bW wr wa0:=(Below.refl _ wr).drew.trans hb1;replace hB:=qTH hB hd;refine hK.out _ _ ((hd.cell (p:=(E g (J*12))) (block_lt_of_cell c0)).trans c0) (λhS=>?_);clear hK K hb1 hd c0;refine tz 7 19 (.bool false) ?_;refine td ?_;clear hS;go_upto_region 7 with fail;obtain⟨T1,hT1⟩:∃T:Nat,T=T0+1:=⟨_,rfl⟩;rw[Aq hT1];have HT1:=iH hT1;have hTb1:0<T1/\T1+10+ns J*2<=1073741824:=by omega
  clear hT1;have c1:wa0.cell? (E g (J*12+1))=some (Y (Bp T1)):=by have h:=(hB.out.cell (p:=(E g (J*12+1))) (block_lt_of_cell D1)).trans D1;rw[show T0+1=T1 by have e1:=HT1.out;omega]at h;exact h
  go_upto_region 7 with fail;refine wp_region_held_drew (S:=λwy=>wy.cell? (E g (J*12+1))=some (Y (Bp T1))) (by kernel_rfl) c1 (λhS=>?_);refine tz 0 22 (sP g 0 N cap) ?_;refine tz 1 23 (X (J:Int)) ?_;refine ty 2 ⟨some 24,_,_,_,_,none⟩ (pP g (J*12)) ?_ ?_
  .intro wy hy
   clear hy
   first|(go_simp;done)|(go_simp;intro hh;omega)|(go_simp;omega)
  refine tz 3 25 (pP g (J*12+1)) ?_;refine ty 4 ⟨some 26,_,_,_,_,none⟩ (Y (Bp T1)) ?_ ?_
  .intro wy hy
   have h9:=hy;clear hy;go_simp
  refine tz 5 27 (X ((T1:Nat):Int)) ?_;refine rd1 6 ⟨some 28,_,_,_,_,none⟩ rfl (λK hK=>?_);go_simp;refine(Ao T1 _ (by omega) (by omega)).mono ?_;rintro e wa1⟨rfl,hb1⟩;have hd:bW wa0 wa1:=(Below.refl _ wa0).drew.trans hb1;replace hB:=qTH hB hd;refine hK.out _ _ ((hd.cell (p:=(E g (J*12+1))) (block_lt_of_cell c1)).trans c1) (λhS=>?_);clear hK K hb1 hd c1;refine tz 7 29 (.bool false) ?_;refine td ?_;clear hS;go_upto_region 10 with fail;obtain⟨T2,hT2⟩:∃T:Nat,T=T1+1:=⟨_,rfl⟩;rw[Aq hT2];have HT2:=iH hT2;have hTb2:0<T2/\T2+9+ns J*2<=1073741824:=by omega
  clear hT2;have c2:wa1.cell? (E g (J*12+2))=some (X ((T2:Nat):Int)):=by have h:=(hB.out.cell (p:=(E g (J*12+2))) (block_lt_of_cell D2)).trans D2;rw[show T0+2=T2 by have e1:=HT1.out;have e2:=HT2.out;omega]at h;exact h
  go_upto_region 13 with fail;clear c2;obtain⟨T3,hT3⟩:∃T:Nat,T=T2+1:=⟨_,rfl⟩;rw[Aq hT3];have HT3:=iH hT3;have hTb3:0<T3/\T3+8+ns J*2<=1073741824:=by omega
  clear hT3;have c3:wa1.cell? (E g (J*12+3))=some (X ((T3:Nat):Int)):=by have h:=(hB.out.cell (p:=(E g (J*12+3))) (block_lt_of_cell D3)).trans D3;rw[show T0+3=T3 by have e1:=HT1.out;have e2:=HT2.out;have e3:=HT3.out;omega]at h;exact h
  go_upto_region 16 with fail;clear c3;obtain⟨T4,hT4⟩:∃T:Nat,T=T3+1:=⟨_,rfl⟩;rw[Aq hT4];have HT4:=iH hT4;have hTb4:0<T4/\T4+7+ns J*2<=1073741824:=by omega
  clear hT4;have c4:wa1.cell? (E g (J*12+4))=some (X ((T4:Nat):Int)):=by have h:=(hB.out.cell (p:=(E g (J*12+4))) (block_lt_of_cell D4)).trans D4;rw[show T0+4=T4 by have e1:=HT1.out;have e2:=HT2.out;have e3:=HT3.out;have e4:=HT4.out;omega]at h;exact h
  go_upto_region 19 with fail;clear c4;obtain⟨T5,hT5⟩:∃T:Nat,T=T4+1:=⟨_,rfl⟩;rw[Aq hT5];have HT5:=iH hT5;have hTb5:0<T5/\T5+6+ns J*2<=1073741824:=by omega
  clear hT5;have c5:wa1.cell? (E g (J*12+5))=some (X ((T5:Nat):Int)):=by have h:=(hB.out.cell (p:=(E g (J*12+5))) (block_lt_of_cell D5)).trans D5;rw[show T0+5=T5 by have e1:=HT1.out;have e2:=HT2.out;have e3:=HT3.out;have e4:=HT4.out;have e5:=HT5.out;omega]at h;exact h
  go_upto_region 22 with fail;clear c5;obtain⟨T6,hT6⟩:∃T:Nat,T=T5+1:=⟨_,rfl⟩;rw[Aq hT6];have HT6:=iH hT6;have hTb6:0<T6/\T6+5+ns J*2<=1073741824:=by omega
  clear hT6;have c6:wa1.cell? (E g (J*12+6))=some (Y (Bp T6)):=by have h:=(hB.out.cell (p:=(E g (J*12+6))) (block_lt_of_cell D6)).trans D6;rw[show T0+6=T6 by have e1:=HT1.out;have e2:=HT2.out;have e3:=HT3.out;have e4:=HT4.out;have e5:=HT5.out;have e6:=HT6.out;omega]at h;exact h
  go_upto_region 22 with fail;refine wp_region_held_drew (S:=λwy=>wy.cell? (E g (J*12+6))=some (Y (Bp T6))) (by kernel_rfl) c6 (λhS=>?_);refine tz 0 68 (sP g 0 N cap) ?_;refine tz 1 69 (X (J:Int)) ?_;refine ty 2 ⟨some 70,_,_,_,_,none⟩ (pP g (J*12)) ?_ ?_
  .intro wy hy
   clear hy
   first|(go_simp;done)|(go_simp;intro hh;omega)|(go_simp;omega)
  refine tz 3 71 (pP g (J*12+6)) ?_;refine ty 4 ⟨some 72,_,_,_,_,none⟩ (Y (Bp T6)) ?_ ?_
  .intro wy hy
   have h9:=hy;clear hy;go_simp
  refine tz 5 73 (X ((T6:Nat):Int)) ?_;refine rd1 6 ⟨some 74,_,_,_,_,none⟩ rfl (λK hK=>?_);go_simp;refine(Ao T6 _ (by omega) (by omega)).mono ?_;rintro e wa6⟨rfl,hb1⟩;have hd:bW wa1 wa6:=(Below.refl _ wa1).drew.trans hb1;replace hB:=qTH hB hd;refine hK.out _ _ ((hd.cell (p:=(E g (J*12+6))) (block_lt_of_cell c6)).trans c6) (λhS=>?_);clear hK K hb1 hd c6;refine tz 7 75 (.bool false) ?_;refine td ?_;clear hS;go_upto_region 25 with fail;obtain⟨T7,hT7⟩:∃T:Nat,T=T6+1:=⟨_,rfl⟩;rw[Aq hT7];have HT7:=iH hT7;have hTb7:0<T7/\T7+4+ns J*2<=1073741824:=by omega
  clear hT7;have c2:wa6.cell? (E g (J*12+7))=some (.slice (ea J) (ns J) (ec J)):=(hB.out.cell (p:=(E g (J*12+7))) (block_lt_of_cell (HS J hlt))).trans (HS J hlt);have HS2:Hid (Mk wa6 (LLk (ea J) (ns J)) T7):=by have h:=HSU.out;rw[show T0+7=T7 by have e1:=HT1.out;have e2:=HT2.out;have e3:=HT3.out;have e4:=HT4.out;have e5:=HT5.out;have e6:=HT6.out;have e7:=HT7.out;omega]at h;exact λj b o c hj=>(hB.out.cell (p:=(E b o)) (block_lt_of_cell (h j b o c hj))).trans (h j b o c hj)
  go_wp2_with fail;refine(eB hej (ec J) T7 HS2 (by omega) (by omega)).mono ?_;rintro e w5⟨rfl,hb⟩;replace hB:=qTH hB hb;clear hb c2 HS2;obtain⟨T8,hT8⟩:∃T:Nat,T=T7+ns J*2:=⟨_,rfl⟩;rw[<-hT8];have HT8:=iH hT8;have hTb8:0<T8/\T8+4<=1073741824:=by omega
  clear hT8;go_upto_region 28 with fail;have c8:w5.cell? (E g (J*12+8))=some (X ((T8:Nat):Int)):=by have h:=(hB.out.cell (p:=(E g (J*12+8))) (block_lt_of_cell D8)).trans D8;rw[show T0+7+ns J*2+0=T8 by have e1:=HT1.out;have e2:=HT2.out;have e3:=HT3.out;have e4:=HT4.out;have e5:=HT5.out;have e6:=HT6.out;have e7:=HT7.out;have e8:=HT8.out;omega]at h;exact h
  go_upto_region 31 with fail;clear c8;obtain⟨T9,hT9⟩:∃T:Nat,T=T8+1:=⟨_,rfl⟩;rw[Aq hT9];have HT9:=iH hT9;have hTb9:0<T9/\T9+3<=1073741824:=by omega
  clear hT9;have c9:w5.cell? (E g (J*12+9))=some (Y (Bp T9)):=by have h:=(hB.out.cell (p:=(E g (J*12+9))) (block_lt_of_cell D9)).trans D9;rw[show T0+7+ns J*2+1=T9 by have e1:=HT1.out;have e2:=HT2.out;have e3:=HT3.out;have e4:=HT4.out;have e5:=HT5.out;have e6:=HT6.out;have e7:=HT7.out;have e8:=HT8.out;have e9:=HT9.out;omega]at h;exact h
  go_upto_region 31 with fail;refine wp_region_held_drew (S:=λwy=>wy.cell? (E g (J*12+9))=some (Y (Bp T9))) (by kernel_rfl) c9 (λhS=>?_);refine tz 0 96 (sP g 0 N cap) ?_;refine tz 1 97 (X (J:Int)) ?_;refine ty 2 ⟨some 98,_,_,_,_,none⟩ (pP g (J*12)) ?_ ?_
  .intro wy hy
   clear hy
   first|(go_simp;done)|(go_simp;intro hh;omega)|(go_simp;omega)
  refine tz 3 99 (pP g (J*12+9)) ?_;refine ty 4 ⟨some 100,_,_,_,_,none⟩ (Y (Bp T9)) ?_ ?_
  .intro wy hy
   have h9:=hy;clear hy;go_simp
  refine tz 5 101 (X ((T9:Nat):Int)) ?_;refine rd1 6 ⟨some 102,_,_,_,_,none⟩ rfl (λK hK=>?_);go_simp;refine(Ao T9 _ (by omega) (by omega)).mono ?_;rintro e wa9⟨rfl,hb1⟩;have hd:bW w5 wa9:=(Below.refl _ w5).drew.trans hb1;replace hB:=qTH hB hd;refine hK.out _ _ ((hd.cell (p:=(E g (J*12+9))) (block_lt_of_cell c9)).trans c9) (λhS=>?_);clear hK K hb1 hd c9;refine tz 7 103 (.bool false) ?_;refine td ?_;clear hS;go_upto_region 34 with fail;obtain⟨T10,hT10⟩:∃T:Nat,T=T9+1:=⟨_,rfl⟩;rw[Aq hT10];have HT10:=iH hT10;have hTb10:0<T10/\T10+2<=1073741824:=by omega
  clear hT10;have c10:wa9.cell? (E g (J*12+10))=some (Y (Bp T10)):=by have h:=(hB.out.cell (p:=(E g (J*12+10))) (block_lt_of_cell D10)).trans D10;rw[show T0+7+ns J*2+2=T10 by have e1:=HT1.out;have e2:=HT2.out;have e3:=HT3.out;have e4:=HT4.out;have e5:=HT5.out;have e6:=HT6.out;have e7:=HT7.out;have e8:=HT8.out;have e9:=HT9.out;have e10:=HT10.out;omega]at h;exact h
  go_upto_region 34 with fail;refine wp_region_held_drew (S:=λwy=>wy.cell? (E g (J*12+10))=some (Y (Bp T10))) (by kernel_rfl) c10 (λhS=>?_);refine tz 0 106 (sP g 0 N cap) ?_;refine tz 1 107 (X (J:Int)) ?_;refine ty 2 ⟨some 108,_,_,_,_,none⟩ (pP g (J*12)) ?_ ?_
  .intro wy hy
   clear hy
   first|(go_simp;done)|(go_simp;intro hh;omega)|(go_simp;omega)
  refine tz 3 109 (pP g (J*12+10)) ?_;refine ty 4 ⟨some 110,_,_,_,_,none⟩ (Y (Bp T10)) ?_ ?_
  .intro wy hy
   have h9:=hy;clear hy;go_simp
  refine tz 5 111 (X ((T10:Nat):Int)) ?_;refine rd1 6 ⟨some 112,_,_,_,_,none⟩ rfl (λK hK=>?_);go_simp;refine(Ao T10 _ (by omega) (by omega)).mono ?_;rintro e wa10⟨rfl,hb1⟩;have hd:bW wa9 wa10:=(Below.refl _ wa9).drew.trans hb1;replace hB:=qTH hB hd;refine hK.out _ _ ((hd.cell (p:=(E g (J*12+10))) (block_lt_of_cell c10)).trans c10) (λhS=>?_);clear hK K hb1 hd c10;refine tz 7 113 (.bool false) ?_;refine td ?_;clear hS;go_upto_region 37 with fail;obtain⟨T11,hT11⟩:∃T:Nat,T=T10+1:=⟨_,rfl⟩;rw[Aq hT11];have HT11:=iH hT11;have hTb11:0<T11/\T11+1<=1073741824:=by omega
  clear hT11;have c11:wa10.cell? (E g (J*12+11))=some (Y (Bp T11)):=by have h:=(hB.out.cell (p:=(E g (J*12+11))) (block_lt_of_cell D11)).trans D11;rw[show T0+7+ns J*2+3=T11 by have e1:=HT1.out;have e2:=HT2.out;have e3:=HT3.out;have e4:=HT4.out;have e5:=HT5.out;have e6:=HT6.out;have e7:=HT7.out;have e8:=HT8.out;have e9:=HT9.out;have e10:=HT10.out;have e11:=HT11.out;omega]at h;exact h
  go_upto_region 37 with fail;refine wp_region_held_drew (S:=λwy=>wy.cell? (E g (J*12+11))=some (Y (Bp T11))) (by kernel_rfl) c11 (λhS=>?_);refine tz 0 116 (sP g 0 N cap) ?_;refine tz 1 117 (X (J:Int)) ?_;refine ty 2 ⟨some 118,_,_,_,_,none⟩ (pP g (J*12)) ?_ ?_
  .intro wy hy
   clear hy
   first|(go_simp;done)|(go_simp;intro hh;omega)|(go_simp;omega)
  refine tz 3 119 (pP g (J*12+11)) ?_;refine ty 4 ⟨some 120,_,_,_,_,none⟩ (Y (Bp T11)) ?_ ?_
  .intro wy hy
   have h9:=hy;clear hy;go_simp
  refine tz 5 121 (X ((T11:Nat):Int)) ?_;refine rd1 6 ⟨some 122,_,_,_,_,none⟩ rfl (λK hK=>?_);go_simp;refine(Ao T11 _ (by omega) (by omega)).mono ?_;rintro e wa11⟨rfl,hb1⟩;have hd:bW wa10 wa11:=(Below.refl _ wa10).drew.trans hb1;replace hB:=qTH hB hd;refine hK.out _ _ ((hd.cell (p:=(E g (J*12+11))) (block_lt_of_cell c11)).trans c11) (λhS=>?_);clear hK K hb1 hd c11;refine tz 7 123 (.bool false) ?_;refine td ?_;clear hS
  go_wp2
  go_roundw
  case rel=>exact⟨J+1,by omega,by go_num,by have e0:=HT0.out;have e9:=HLJ.out;have e1:=HT1.out;have e2:=HT2.out;have e3:=HT3.out;have e4:=HT4.out;have e5:=HT5.out;have e6:=HT6.out;have e7:=HT7.out;have e8:=HT8.out;have e9:=HT9.out;have e10:=HT10.out;have e11:=HT11.out;congr 1;omega,hB⟩
  simp[intOf];omega
 have hje:J=N:=by omega
 subst hje
 go_wp2
 go_ret;exact⟨rfl,hB.out⟩
end Go.Proofs.YthboopnmbglkjaaGreat
