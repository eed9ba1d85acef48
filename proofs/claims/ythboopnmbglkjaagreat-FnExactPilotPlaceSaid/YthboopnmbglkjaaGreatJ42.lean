import Derived.Test.YthboopnmbglkjaaGreatScr
set_option maxHeartbeats 8000000
set_option maxRecDepth 100000
namespace Go.Proofs.YthboopnmbglkjaaGreat
open Go.RowKit Tryz
abbrev oV(x:Flt)(ci:Nat)(y:Cpy)(z:Nat×Brt):Array Value:=#[X ((z.1:Nat):Int),X (n1C y z.2),X (n2C x ci y z.2),X (n3C x ci y z.2),X (n4C x ci y z.2)]
def AF(x:Flt)(ci:Nat)(y:Cpy)(z:Nat×Brt):Array Value:=#[.agg (oV x ci y z)]
theorem B2.of_but{m:Nat}{w w':World}(h:But m w.heap.size w w'):B2 m m w w':=⟨h.os,h.tape,h.output,h.size,λk hk h1 _=>h.block k hk h1⟩
theorem FoundM.kps{G:Nat->Prop}{p m1 m2 m3 m4 n:Nat}{x:Flt}{a1:OA}{c1:Nat}{a2:OA}{c2:Nat}{a3:OA}{c3:Nat}{w w':World}(h:FoundM p m1 m2 m3 m4 n x a1 c1 a2 c2 a3 c3 w)(k:KpS G w w')(hp:¬G p)(h1:¬G m1)(h2:¬G m2)(h3:¬G m3)(h4:¬G m4):FoundM p m1 m2 m3 m4 n x a1 c1 a2 c2 a3 c3 w':=by
 obtain⟨q1,q2,q3,q4,q5,q6,q7⟩:=h;refine⟨λj v hj=>(k.cell (a:=(E p (0+j))) q2 hp).trans (q1 j v hj),lL q2 k.size,?_,?_,?_,?_,q7⟩
 .obtain⟨es,clock,r1,r2⟩:=q3
  exact⟨es,clock,(k.block m1 (Array.getElem?_eq_some_iff.1 r1).1 h1).trans r1,r2⟩
 .obtain⟨es,clock,r1,r2⟩:=q4
  exact⟨es,clock,(k.block m2 (Array.getElem?_eq_some_iff.1 r1).1 h2).trans r1,r2⟩
 .obtain⟨es,clock,r1,r2⟩:=q5
  exact⟨es,clock,(k.block m3 (Array.getElem?_eq_some_iff.1 r1).1 h3).trans r1,r2⟩
 obtain⟨n',D',r0,⟨es,clock,r1,r2⟩,r3⟩:=q6;exact⟨n',D',r0,⟨es,clock,(k.block m4 (Array.getElem?_eq_some_iff.1 r1).1 h4).trans r1,r2⟩,r3⟩
theorem lD(p:Nat)(ci:Int)(w:World) :
  Calls prog 114 #[pP p 0,X ci] w λe w'=>e=.returned (.func (.func 142) #[] #[pP w.heap.size 0,pP (w.heap.size+1) 0])/\w'=(w.alloc (Obj.cells #[pP p 0] 59)).alloc (Obj.cells #[X ci] 3):=by
 go_enter func114,ntmps114
 go_wp2
 go_ret;exact⟨rfl,rfl⟩
theorem iR(W0:World)(lo p m1 m2 m3 m4 ci n0:Nat)(x:Flt)(a1:OA)(c1:Nat)(a2:OA)(c2:Nat)(a3:OA)(c3:Nat)(y:Cpy)(Bf Bi:Nat)(G:Nat->Prop)(w:World)(hW:Keeps lo W0 w)(hF:FoundM p m1 m2 m3 m4 n0 x a1 c1 a2 c2 a3 c3 w)(hn0:n0<=7000000)(n1:sB lo W0 a1 x.berths)(n3:sC lo W0 a3 x.copies)(hv:Bb x=true)(hy:x.copies[ci]?=some y)(hBf:Blk Bf #[pP p 0] 59 w)(hBi:Blk Bi #[X ((ci:Nat):Int)] 3 w)(kf:¬G Bf/\Bf≠m4)(ki:¬G Bi/\Bi≠m4)(hG:(∀k,G k->W0.heap.size<=k/\k<w.heap.size)/\¬G p/\¬G m1/\¬G m2/\¬G m3/\¬G m4) :
  BU prog 142 #[pP Bf 0,pP Bi 0] (AF x ci y) G m4 m4 x.berths.length (λxs=>xs=Kj x ci y x.berths.length) (λW'=>MemoAt m4 (n0+13*x.berths.length) x.berths W'/\(x.berths=[]->bW w W')) w:=by
 intro Y9 J W hbW hJ hY h0;obtain⟨hGb,gp,g1,g2,g3,g4⟩:=hG;obtain⟨kf1,kf2⟩:=kf;obtain⟨ki1,ki2⟩:=ki;obtain⟨h12,h60,_,_,_,_⟩:=Bh hv;have hb12:x.berths.length<=12:=(Au hv).1;have N1:=iH n1;have N3:=iH n3;have HV:=iH hv;have HYC:=iH hy;have HGB:=iH hGb;have HJ:=iH hJ;have HY:=iH hY;have HF0:=iH (hF.below hbW);have HBf:=iH (hBf.below hbW hBf.lt);have HBi:=iH (hBi.below hbW hBi.lt);have H0:=iH h0;have hWW:Keeps lo W0 W:=hW.trans (Keeps.of_below hbW nL lo);have hwW:=hbW.size;have HE0:=iH hbW;clear n1 n3 hv hy hGb hJ hY hF hBf hBi h0 hW hbW h12;show Calls prog 142 #[.func (.yield Y9) #[] #[],pP Bf 0,pP Bi 0] W _
 go_enter func142,ntmps142;go_upto_region 1 with(refine(sI _).mono ?_;rintro e w1 ⟨rb,rc,rfl,hr1,hg1,hg2,hb1⟩);have HR1:=iH hr1;have HF1:=iH (HF0.out.below hb1);have HBf1:=qBk HBf hb1;have HBi1:=qBk HBi hb1;have HJ1:=iH (HJ _ _ _ H0 (B2.of_below hb1));have hW1:Keeps lo W0 w1:=hWW.trans (Keeps.of_below hb1 nL lo);replace HE0:=qTH HE0 hb1;have hrm:rb≠m4:=by have:=HF0.out.memo.lt;omega
 have hrG:¬G rb:=λh=>by have:=(HGB rb h).2;omega
 clear hr1 hb1 hg1 HF0 HBf HBi H0 hWW;have e1:w1.cell? (E Bf 0)=some (pP p 0):=HBf1.out.cell rfl;have e2:w1.cell? (E p 1)=some (.slice a1 x.berths.length c1):=HF1.out.1 1 _ rfl;go_wp2_with fail;clear e1 e2;go_loopw [14] (λi wr=>∃k:Nat,k<=x.berths.length/\i=X ((k:Nat):Int)/\Hid (J (Kj x ci y k) wr)/\Hid (FoundM p m1 m2 m3 m4 (n0+13*k) x a1 c1 a2 c2 a3 c3 wr)/\Hid (Blk Bf #[pP p 0] 59 wr)/\Hid (Blk Bi #[X ((ci:Nat):Int)] 3 wr)/\Hid (wr.rangeAt rb 0 Wf)/\rb<wr.heap.size/\Keeps lo W0 wr/\Hid (x.berths=[]->bW w wr)) (λi _=>x.berths.length-(intOf i).toNat)
 case atStart=>exact⟨0,zL,rfl,HJ1,HF1,HBf1,HBi1,HR1,hg2,hW1,λ_=>HE0.out⟩
 clear HJ1 HF1 HBf1 HBi1 HR1 hg2 hW1 HE0;obtain⟨k,hk,rfl,HJr,HFr,HBf,HBi,HRr,hrb,hWr,HEr⟩:=hrel;by_cases hlt:k<x.berths.length
 case neg =>
  have hke:k=x.berths.length:=by omega
  subst hke;go_wp2_with fail
  first|go_end0|((try simp only[Exit.inBlock,Exit.then]);refine bodyPost_ret (results_none rfl _ _ _) rfl ?_)
  exact⟨⟨_,rfl⟩,_,rfl,HJr,HFr.out.memo,HEr⟩
 obtain⟨b,hb⟩:=gXe hlt;have HB:=iH hb;have HNE:Hid (x.berths=[]->False):=λe=>by rw[e]at hlt;simp at hlt
 clear hb HEr;have e1:wr.cell? (E Bf 0)=some (pP p 0):=HBf.out.cell rfl;have e2:wr.cell? (E Bi 0)=some (X ((ci:Nat):Int)):=HBi.out.cell rfl;go_wp2_with fail;clear e1 e2;refine(jM p x a1 c1 a2 c2 a3 c3 lo ci k y b _ ⟨HFr.out.1 1 _ rfl,HFr.out.1 2 _ rfl,HFr.out.1 3 _ rfl⟩ (N1.out.keep BrtC.holds hWr nL) (N3.out.keep CpyC.holds hWr nL) (by omega) HYC HB).mono ?_;rintro e w2⟨a7,c7,am,cm,rfl,_,_,⟨cb,co,bb,bo,ea,eb,hs7,hsm⟩,hb2⟩;have S7:Hid (sK lo W0 a7 y.likes):=by
  obtain⟨b',o',e,hlo,hl,hc⟩:=N3.out.at HYC;rw[ea]at e;cases e
  obtain⟨a7',c7',_,_,_,_,_,_,_,q7,_,_,_,_,_,_,_,_,_,_,n7⟩:=hc;rw[(hWr.2 cb (co+ci*12+7) hlo hl).1]at hs7;have hq:=(show W0.cell? (E cb (co+ci*12+7))=_ from q7).symm.trans hs7;simp only[Option.some.injEq,Value.slice.injEq]at hq;obtain⟨rfl,_,_⟩:=hq;exact n7
 have SM:Hid (sX lo W0 am b.marks):=by
  obtain⟨b',o',e,hlo,hl,hc⟩:=N1.out.at HB;rw[eb]at e;cases e
  obtain⟨am',cm',_,_,r2,_,_,_,_,_,nm⟩:=hc;rw[(hWr.2 bb (bo+k*6+2) hlo hl).1]at hsm;have hq:=(show W0.cell? (E bb (bo+k*6+2))=_ from r2).symm.trans hsm;simp only[Option.some.injEq,Value.slice.injEq]at hq;obtain⟨rfl,_,_⟩:=hq;exact nm
 clear hs7 hsm ea eb;obtain⟨u1,hu1⟩:∃u:Int,u=(Bd x.copies b.name ci x.copies.length).1:=⟨_,rfl⟩;obtain⟨u2,hu2⟩:∃u:Int,u=(Bd x.copies b.name ci x.copies.length).2.1:=⟨_,rfl⟩;obtain⟨u3,hu3⟩:∃u:Int,u=(Bd x.copies b.name ci x.copies.length).2.2:=⟨_,rfl⟩;rw[<-hu1,<-hu2,<-hu3];have HU1:Hid (u1=Bg x ci b.name x.copies.length):=hu1.trans (Nr ci b.name _ h60);have HU2:Hid (u2=Bl x ci b.name x.copies.length):=hu2.trans (Ph ci b.name (λk c h=>((Au HV).2.2.2 k c h).1) _ h60);have HU3:Hid (u3=Ca x ci b.name x.copies.length):=hu3.trans (Qu ci b.name (λk c h=>((Dw HV).1 k c h).1) _ h60);have HR2:Hid (0<=u2/\u2<=60000):=by
  have:=Jt ci b.name (λk c h=>((Au HV).2.2.2 k c h).1) x.copies.length;show _/\_
  rw[HU2.out];omega
 have HR3:Hid (0<=u3/\u3<=60000):=by
  have:=Sa ci b.name (λk c h=>((Dw HV).1 k c h).1) x.copies.length;show _/\_
  rw[HU3.out];omega
 have HSC:Hid (Jp (Qg x ci y b u1 u2 u3)=Cs x ci y b false):=iQ HU1 HU2 HU3;have HK:Hid (SpotK W0 lo ci k x a1 a3 y a7 b am):=⟨N1,N3,S7,SM,HV,HYC,HB⟩;clear hu1 hu2 hu3;have hza:=Blk.alloc w2 Ud 201;have HTS:Hid ((w2.alloc (Obj.cells Ud 201)).there w2.heap.size 0 24):=hza.there;obtain⟨w3,HW3⟩:∃w3,Hid (w3=(w2.alloc (Obj.cells Ud 201)).setCells w2.heap.size 0 (An p ci k y a7 c7 b am cm u1 u2 u3).toList):=⟨_,rfl⟩;have HX3:Hid (Blk w2.heap.size (An p ci k y a7 c7 b am cm u1 u2 u3) 201 w3):=by
  show Blk _ _ _ _
  rw[HW3.out];exact hza.setAll (An p ci k y a7 c7 b am cm u1 u2 u3) rfl
 have hbs:bW w2 w3:=by
  rw[HW3.out];exact Ae nL _ _ _ ((Below.refl _ w2).alloc nL _)
 have hb3:=qTr hb2 hbs;have hq3:wr.heap.size<=w2.heap.size:=hb2.size;have hm4r:=HFr.out.memo.lt;have HF3:=iH (HFr.out.below hb3);have HJ3:=iH (HJ _ _ _ HJr (B2.of_below hb3));have HBf3:=qBk HBf hb3;have HBi3:=qBk HBi hb3;have HRN:=iH (Ac HRr hb3 hrb);have HRR:=iH (kJ x ci y b u1 u2 u3 HRN);have hrb3:rb<w3.heap.size:=lL hrb hb3.size;have hW3:Keeps lo W0 w3:=hWr.trans (Keeps.of_below hb3 nL lo);clear hza hbs hb3 hb2 HJr HFr HBf HBi HRr hrb hWr;go_upto_region 5 with(first|(refine Ai rfl 201 _ _ rfl w2.heap.size 0 (An p ci k y a7 c7 b am cm u1 u2 u3) rfl rfl HTS Es (by simp[Value.oneCell']) w3 HW3 ?_));clear HTS HW3;have hqm:w2.heap.size≠m4:=by omega
 generalize w2.heap.size=q at *;have hne1:=Iw HB;have hne2:=Jf HV HYC;have hne3:=Iw HYC;have HCALL:Hid (Calls prog 145 #[sP rb 0 8 rc,.agg (An p ci k y a7 c7 b am cm u1 u2 u3)] w3 λe w'=>e=.returned (X (Cs x ci y b false))/\MemoAt m4 (n0+13*k+8) x.berths w'/\But m4 w3.heap.size w3 w'):=by
  have h:=dR lo p m1 m2 m3 m4 ci k x a1 c1 a2 c2 a3 c3 y a7 c7 b am cm u1 u2 u3 (Qg x ci y b u1 u2 u3) rb rc (n0+13*k) w3 (HK.out.keep hW3) (Nat.le_refl 8) (by omega) (λW hk k' r h=>rB W lo p m1 m2 m3 m4 ci k x a1 c1 a2 c2 a3 c3 y a7 c7 b am cm u1 u2 u3 hk HR2 HR3 r (List.mem_of_getElem? h)) (λk' r h=>eN x ci y b u1 u2 u3 r (List.mem_of_getElem? h)) HF3 HRR hrb3 hrm;rw[HSC.out]at h;exact h
 clear HRR HSC HR2 HR3;by_cases hfit:Cs x ci y b false=0
 case neg =>
  have HOF:=iH (fM HB hfit);generalize Cs x ci y b false=fv at *;go_wp2_with(refine wpList_load_mid rfl 201 _ rfl q 0 (by first|rfl|(simp[go_sem];done)) (An p ci k y a7 c7 b am cm u1 u2 u3).toList _ HX3.out.rangeA underlying201 rfl Es ?_);refine HCALL.out.mono ?_;rintro e w5⟨rfl,hm5,hb5⟩;have HF5:Hid (FoundM p m1 m2 m3 m4 (n0+13*(k+1)) x a1 c1 a2 c2 a3 c3 w5):=HF3.out.but hb5 (hm5.mono (by omega)) hne1 hne2 hne3;have HJ5:=iH (HJ _ _ _ HJ3 (B2.of_but hb5));have HBf5:Hid (Blk Bf #[pP p 0] 59 w5):=(hb5.block _ HBf3.out.lt kf2).trans HBf3;have HBi5:Hid (Blk Bi #[X ((ci:Nat):Int)] 3 w5):=(hb5.block _ HBi3.out.lt ki2).trans HBi3;have HRN5:Hid (w5.rangeAt rb 0 Wf):=λj v hj=>(hb5.cell (a:=(E rb (0+j))) hrb3 hrm).trans (HRN j v hj)
  have hW5:Keeps lo W0 w5:=hW3.trans (Gv hb5 HF3.out.memo hm5);have hrb5:rb<w5.heap.size:=lL hrb3 hb5.size;have hd:decide (fv=0)=false:=decide_eq_false hfit;have hd2:(fv==0)=false:=by simpa using hfit
  clear hm5 hb5 HCALL HF3 HJ3 HBf3 HBi3 HRN hrb3 hW3 HX3
  go_wp2
  go_roundw
  case rel=>exact⟨k+1,by omega,by go_num,by rw[HOF.out];exact HJ5,HF5,HBf5,HBi5,HRN5,hrb5,hW5,λe=>(HNE e).elim⟩
  simp[intOf];omega
 have HOF:=iH (eX HB hfit);rw[hfit]at HCALL;clear hfit;refine(wpIn_wide (n:=5)).1 ?_
 gi_wp2_with (refine Jl (by first|rfl|kernel_rfl) 201 _ rfl q 0 (by first|rfl|(simp[go_sem];done)) (An p ci k y a7 c7 b am cm u1 u2 u3).toList _ HX3.out.rangeA underlying201 rfl Es ?_)
 refine⟨trivial,(callsIn_wide.2 HCALL).mono ?_⟩;rintro e w5⟨rfl,hm5,hb5⟩;have HF5:Hid (FoundM p m1 m2 m3 m4 (n0+13*k+8) x a1 c1 a2 c2 a3 c3 w5):=HF3.out.but hb5 hm5 hne1 hne2 hne3;have HJ5:=iH (HJ _ _ _ HJ3 (B2.of_but hb5));have HBf5:Hid (Blk Bf #[pP p 0] 59 w5):=(hb5.block _ HBf3.out.lt kf2).trans HBf3;have HBi5:Hid (Blk Bi #[X ((ci:Nat):Int)] 3 w5):=(hb5.block _ HBi3.out.lt ki2).trans HBi3;have HRN5:Hid (w5.rangeAt rb 0 Wf):=λj v hj=>(hb5.cell (a:=(E rb (0+j))) hrb3 hrm).trans (HRN j v hj)
 have hW5:Keeps lo W0 w5:=hW3.trans (Gv hb5 HF3.out.memo hm5);have hrb5:rb<w5.heap.size:=lL hrb3 hb5.size;have HK5:=iH (HK.out.keep hW5);have HX5:Hid (Blk q (An p ci k y a7 c7 b am cm u1 u2 u3) 201 w5):=(hb5.block _ HX3.out.lt hqm).trans HX3;clear hm5 hb5 HCALL HF3 HJ3 HBf3 HBi3 HRN hrb3 hW3 HX3
 gi_wp2_with (refine Jl (by first|rfl|kernel_rfl) 201 _ rfl q 0 (by first|rfl|(simp[go_sem];done)) (An p ci k y a7 c7 b am cm u1 u2 u3).toList _ HX5.out.rangeA underlying201 rfl Es ?_)
 refine⟨trivial,(callsIn_wide.2 (oJ p m1 m2 m3 m4 ci k x a1 c1 a2 c2 a3 c3 y a7 c7 b am cm u1 u2 u3 lo w5 w5 (Below.refl _ _) (n0+13*k+8) (by omega) HF5 HK5.out.1 HK5.out.2.1 HK5.out.2.2.1 HK5.out.2.2.2.1 HV HYC HB HU2)).mono ?_⟩;rintro e w6⟨rfl,hm6,hb6⟩;rw[vB];have HF6:Hid (FoundM p m1 m2 m3 m4 (n0+13*(k+1)) x a1 c1 a2 c2 a3 c3 w6):=HF5.out.but hb6 (hm6.mono (by omega)) hne1 hne2 hne3;have HJ6:=iH (HJ _ _ _ HJ5 (B2.of_but hb6));have HBf6:Hid (Blk Bf #[pP p 0] 59 w6):=(hb6.block _ HBf5.out.lt kf2).trans HBf5;have HBi6:Hid (Blk Bi #[X ((ci:Nat):Int)] 3 w6):=(hb6.block _ HBi5.out.lt ki2).trans HBi5;have HRN6:Hid (w6.rangeAt rb 0 Wf):=λj v hj=>(hb6.cell (a:=(E rb (0+j))) hrb5 hrm).trans (HRN5 j v hj)
 have hW6:Keeps lo W0 w6:=hW5.trans (Gv hb6 HF5.out.memo hm6);have hrb6:rb<w6.heap.size:=lL hrb5 hb6.size;clear hm6 hb6 HF5 HJ5 HBf5 HBi5 HRN5 hrb5 hW5 HX5;obtain⟨fn,tmps,assign,body,hyy,hR⟩:=YieldAt.anyQ (m':=4) (HY _ (k,b) w6 HJ6 (by have:=nA (x:=x) (ci:=ci) (y:=y) k;omega));dsimp only[AF,oV]at hyy
 have hR':=hR.mono (R':=λe W9=>e=.returned (.bool true)/\Hid (J (Kj x ci y k++[(k,b)]) W9/\KpS G w6 W9)) (by
  rintro e W9⟨h1,h2,h3⟩
  exact⟨h1,h2,h3⟩)
 clear hR
 gi_wp2_with (refine hR'.mono ?_;rintro e W9 ⟨rfl,hq9⟩)
 clear hR' hyy;have hk9:=hq9.out.2;have HF9:Hid (FoundM p m1 m2 m3 m4 (n0+13*(k+1)) x a1 c1 a2 c2 a3 c3 W9):=HF6.out.kps hk9 gp g1 g2 g3 g4;have HBf9:Hid (Blk Bf #[pP p 0] 59 W9):=hk9.blk HBf6 kf1;have HBi9:Hid (Blk Bi #[X ((ci:Nat):Int)] 3 W9):=hk9.blk HBi6 ki1;have HRN9:Hid (W9.rangeAt rb 0 Wf):=λj v hj=>(hk9.cell (a:=(E rb (0+j))) hrb6 hrG).trans (HRN6 j v hj)
 have hW9:Keeps lo W0 W9:=⟨lT hW6.1 hk9.size,λi o h1 h2=>by
  have e9:=hk9.block i (lL h2 hW6.1) (λhg=>by have:=(HGB i hg).1;omega)
  exact⟨(World.cell?_of_block (a:=(E i o)) e9).trans (hW6.2 i o h1 h2).1,(World.frozen?_of_block (a:=(E i o)) e9).trans (hW6.2 i o h1 h2).2⟩⟩
 have hrb9:rb<W9.heap.size:=lL hrb6 hk9.size;clear hk9 HF6 HBf6 HBi6 HRN6 hW6 hrb6 HJ6
 go_wp2
 go_roundw
 case rel=>exact⟨k+1,by omega,by go_num,by rw[HOF.out];exact hq9.out.1,HF9,HBf9,HBi9,HRN9,hrb9,hW9,λe=>(HNE e).elim⟩
 simp[intOf];omega
section
variable {P:Program} {ops:Array Oper} {Q:Exit->Act->World->Prop} {md:Region.Mode} {S:World->Prop}
end
theorem KeepsFrom.of_cells{B:Nat}{w w':World}{row:Option Nat}(hg:w.grownBy w' row)(hr:∀r,row=some r->∃cs ty,w.heap[r]?=some (Obj.cells cs ty)):KeepsFrom B w w' :=
 ⟨hg.size,λk o _ ho hc=>(hg.block k (Array.getElem?_eq_some_iff.1 ho).1 (λe=>by
  obtain⟨cs,ty,h1⟩:=hr k e.symm;rw[ho]at h1;cases h1
  cases hc)).trans ho⟩
theorem KeepsFrom.of_below{B:Nat}{w w':World}(h:bW w w'):KeepsFrom B w w':=⟨h.size,λk _ _ ho _=>(h.block k (Array.getElem?_eq_some_iff.1 ho).1).trans ho⟩
end Go.Proofs.YthboopnmbglkjaaGreat
namespace Go.Proofs.YthboopnmbglkjaaGreat
open Go.RowKit Tryz
attribute [local go_sem] Oper.semAt_some
def bV(x:Flt)(ci:Nat)(y:Cpy)(o:Option (Nat×Brt)):Array Value:=match o with
 |none=>#[X 0,X 0,X 0,X 0,X 0]
 |some z=>oV x ci y z
theorem Th(x:Flt)(ci:Nat)(y:Cpy)(o:Option (Nat×Brt)):(bV x ci y o).size=5:=by cases o<;>rfl
theorem zU(x:Flt)(ci:Nat)(y:Cpy)(o:Option (Nat×Brt)):(bV x ci y o).all (·.oneCell')=true:=by cases o<;>simp[bV,oV,Value.oneCell']
theorem Uq{x:Flt}{ci:Nat}{y:Cpy}{o:Option (Nat×Brt)}:(prog.info? 162).map (·.size)=some (bV x ci y o).toList.length:=by
 rw[Array.length_toList,Th];exact Hv
theorem KpS.setCell1{G:Nat->Prop}{a w:World}(h:KpS G a w){b:Nat}(hG:G b)(o:Nat)(v:Value):KpS G a (w.setCell (E b o) v) :=
 h.trans ⟨rfl,rfl,rfl,by simp[World.setCell],λk _ hk=>Below.heap_setCell _ _ _ _ (λe=>hk (by rw[e];exact hG))⟩
theorem KpS.setCells{G:Nat->Prop}{a:World}{b:Nat}(hG:G b):∀(vs:List Value)(o:Nat)(w:World),KpS G a w->KpS G a (w.setCells b o vs)
 |[],_,_,h=>h
 |_::vs,o,_,h=>KpS.setCells hG vs (o+1) _ (h.setCell1 hG o _)
theorem But.setCellsO{p B b:Nat}{a:World}(hb:B<=b):∀(vs:List Value)(o:Nat)(w:World),But p B a w->But p B a (w.setCells b o vs)
 |[],_,_,h=>h
 |_::vs,o,_,h=>But.setCellsO hb vs (o+1) _ (h.setOther hb o _)
theorem KeepsFrom.setCellsO{B b:Nat}{a:World}:∀(vs:List Value)(o:Nat)(w:World),KeepsFrom B a w->KeepsFrom B a (w.setCells b o vs)
 |[],_,_,h=>h
 |_::vs,o,_,h=>KeepsFrom.setCellsO vs (o+1) _ (h.trans ((KeepsOthers.setCell _ _ _).from _))
theorem MemoAt.putObj{m4 n k:Nat}{bs:List Brt}{W:World}(h:MemoAt m4 n bs W)(o:Obj)(hk:m4<k):MemoAt m4 n bs (W.putObj k o):=by
 obtain⟨n',D',q0,⟨es,clock,q1,q2⟩,q3⟩:=h;exact⟨n',D',q0,⟨es,clock,(World.putObj_heap_other (by omega)).trans q1,q2⟩,q3⟩
theorem MemoAt.setCells{m4 n b:Nat}{bs:List Brt}{W:World}(h:MemoAt m4 n bs W)(vs:List Value)(o:Nat)(hb:m4≠b):MemoAt m4 n bs (W.setCells b o vs):=by
 obtain⟨n',D',q0,⟨es,clock,q1,q2⟩,q3⟩:=h;exact⟨n',D',q0,⟨es,clock,(Aw hb _ _ _).trans q1,q2⟩,q3⟩
theorem nH(W0:World)(lo p m1 m2 m3 m4 ci nq:Nat)(x:Flt)(a1:OA)(c1:Nat)(a2:OA)(c2:Nat)(a3:OA)(c3:Nat)(y:Cpy)(Bf Bi Bc:Nat)(w:World)(hW:Keeps lo W0 w)(hF:FoundM p m1 m2 m3 m4 nq x a1 c1 a2 c2 a3 c3 w)(hnq:nq<=7000000)(n1:sB lo W0 a1 x.berths)(n3:sC lo W0 a3 x.copies)(hv:Bb x=true)(hy:x.copies[ci]?=some y)(hBf:Blk Bf #[pP p 0] 59 w)(hBi:Blk Bi #[X ((ci:Nat):Int)] 3 w)(kf:Bf≠m4)(ki:Bi≠m4)(hBc:w.cell? (E Bc 0)=some (pP p 0))(kc:Bc≠m4) :
  Calls prog 113 #[.func (.func 142) #[] #[pP Bf 0,pP Bi 0],.func (.func 111) #[] #[pP Bc 0]] w λe w'=>e=.returned (.tuple #[.agg (bV x ci y (chT x ci y x.berths.length)),.bool (chT x ci y x.berths.length).isSome])/\But m4 w.heap.size w w'/\MemoAt m4 (nq+13*x.berths.length) x.berths w'/\(x.berths=[]->Below w.heap.size w w'):=by
 have hb7:Below w.heap.size w ((((w.alloc (Obj.cells #[.func (.func 111) #[] #[pP Bc 0]] 163)).alloc (Obj.cells #[X 0,X 0,X 0,X 0,X 0] 162)).alloc (Obj.cells #[X 0,X 0,X 0,X 0,X 0] 162)).alloc (Obj.cells #[.bool false] 4)):=by go_grown
 have hpl:=hF.2.1;have hm1:=hF.2.2.1.lt;have hm2:=hF.2.2.2.1.lt;have hm3:=hF.2.2.2.2.1.lt;have hm4w:=hF.memo.lt;have hbfl:=hBf.lt;have hbil:=hBi.lt;have hbcl:=block_lt_of_cell hBc;have hpm:=hF.2.2.2.2.2.2.1;have HB3:Hid (Blk w.heap.size #[.func (.func 111) #[] #[pP Bc 0]] 163 ((((w.alloc (Obj.cells #[.func (.func 111) #[] #[pP Bc 0]] 163)).alloc (Obj.cells #[X 0,X 0,X 0,X 0,X 0] 162)).alloc (Obj.cells #[X 0,X 0,X 0,X 0,X 0] 162)).alloc (Obj.cells #[.bool false] 4))):=((Blk.alloc w #[.func (.func 111) #[] #[pP Bc 0]] 163).below (B:=w.heap.size+1) (show Below _ _ _ by go_grown) (by omega));have HB4:Hid (Blk (w.heap.size+1) #[X 0,X 0,X 0,X 0,X 0] 162 ((((w.alloc (Obj.cells #[.func (.func 111) #[] #[pP Bc 0]] 163)).alloc (Obj.cells #[X 0,X 0,X 0,X 0,X 0] 162)).alloc (Obj.cells #[X 0,X 0,X 0,X 0,X 0] 162)).alloc (Obj.cells #[.bool false] 4))):=by
  have h:=Blk.alloc (w.alloc (Obj.cells #[.func (.func 111) #[] #[pP Bc 0]] 163)) #[X 0,X 0,X 0,X 0,X 0] 162;rw[World.size_alloc]at h;exact h.below (B:=w.heap.size+2) (show Below _ _ _ by go_grown) (by omega)
 have HB6:Hid (Blk (w.heap.size+2) #[X 0,X 0,X 0,X 0,X 0] 162 ((((w.alloc (Obj.cells #[.func (.func 111) #[] #[pP Bc 0]] 163)).alloc (Obj.cells #[X 0,X 0,X 0,X 0,X 0] 162)).alloc (Obj.cells #[X 0,X 0,X 0,X 0,X 0] 162)).alloc (Obj.cells #[.bool false] 4))):=by
  have h:=Blk.alloc ((w.alloc (Obj.cells #[.func (.func 111) #[] #[pP Bc 0]] 163)).alloc (Obj.cells #[X 0,X 0,X 0,X 0,X 0] 162)) #[X 0,X 0,X 0,X 0,X 0] 162;rw[World.size_alloc,World.size_alloc]at h;exact h.below (B:=w.heap.size+3) (show Below _ _ _ by go_grown) (by omega)
 have HB7:Hid (Blk (w.heap.size+3) #[.bool false] 4 ((((w.alloc (Obj.cells #[.func (.func 111) #[] #[pP Bc 0]] 163)).alloc (Obj.cells #[X 0,X 0,X 0,X 0,X 0] 162)).alloc (Obj.cells #[X 0,X 0,X 0,X 0,X 0] 162)).alloc (Obj.cells #[.bool false] 4))):=by
  have h:=Blk.alloc (((w.alloc (Obj.cells #[.func (.func 111) #[] #[pP Bc 0]] 163)).alloc (Obj.cells #[X 0,X 0,X 0,X 0,X 0] 162)).alloc (Obj.cells #[X 0,X 0,X 0,X 0,X 0] 162)) #[.bool false] 4;rw[World.size_alloc,World.size_alloc,World.size_alloc]at h;exact h
 have hs7:(World.heap ((((w.alloc (Obj.cells #[.func (.func 111) #[] #[pP Bc 0]] 163)).alloc (Obj.cells #[X 0,X 0,X 0,X 0,X 0] 162)).alloc (Obj.cells #[X 0,X 0,X 0,X 0,X 0] 162)).alloc (Obj.cells #[.bool false] 4))).size=w.heap.size+4:=by simp
 have N1:=iH n1;have N3:=iH n3;have HV:=iH hv;have HYC:=iH hy;have HF7:=iH (hF.below hb7);have HBf:=iH (hBf.below hb7 hBf.lt);have HBi:=iH (hBi.below hb7 hBi.lt);have HBC:=iH hBc;have HPK:Hid (w.cell? (E p 0)=some (.bool x.pack)):=hF.1 0 _ rfl;have hW7:Keeps lo W0 ((((w.alloc (Obj.cells #[.func (.func 111) #[] #[pP Bc 0]] 163)).alloc (Obj.cells #[X 0,X 0,X 0,X 0,X 0] 162)).alloc (Obj.cells #[X 0,X 0,X 0,X 0,X 0] 162)).alloc (Obj.cells #[.bool false] 4)):=hW.trans (Keeps.of_below hb7 nL lo);have hWs:=hW.1;clear n1 n3 hv hy hF hBf hBi hBc hW;refine(callsIn_wide (n:=7)).1 ?_;refine callsIn_of_wp_marks func113 rfl trivial ?_ rfl;refine wpIn_wide.2 ?_;simp only[ntmps113,List.size_toArray,List.length_cons,List.length_nil,Nat.reduceAdd,Nat.reduceSub,Array.replicate_succ,Array.replicate_zero,List.push_toArray,List.append_toArray,List.nil_append,List.cons_append];go_wp2_with fail;generalize(((w.alloc (Obj.cells #[.func (.func 111) #[] #[pP Bc 0]] 163)).alloc (Obj.cells #[X 0,X 0,X 0,X 0,X 0] 162)).alloc (Obj.cells #[X 0,X 0,X 0,X 0,X 0] 162)).alloc (Obj.cells #[.bool false] 4)=w7 at *;have hbut7:But m4 w.heap.size w w7:=But.of_below hb7;have HB70:=iH hb7;clear hb7;generalize hn0:w.heap.size=n0 at *;obtain⟨B4,hB4⟩:∃B,B=n0+1:=⟨_,rfl⟩;obtain⟨B6,hB6⟩:∃B,B=n0+2:=⟨_,rfl⟩;obtain⟨B7,hB7⟩:∃B,B=n0+3:=⟨_,rfl⟩;obtain⟨n7,hn7⟩:∃n,n=n0+4:=⟨_,rfl⟩;rw[<-hB4]at HB4;rw[<-hB6]at HB6;rw[<-hB7]at HB7;rw[<-hn7]at hs7;rw[show n0+1+1+1=B7 from by omega,show n0+1+1=B6 from by omega,show n0+1=B4 from by omega];have q1:n0<B4:=by omega
 have q2:B4<B6:=by omega
 have q3:B6<B7:=by omega
 have q4:B7<n7:=by omega
 have q5:n7<=w7.heap.size:=by omega
 have q6:w7.heap.size<=n7:=by omega
 have HN0:=iH hn0;clear hB4 hB6 hB7 hn7 hs7 hn0
 refine wpIn_wide.1 (jK (n:=6) (λk=>k=B6\/k=B7) m4 m4 (gf:=142) (lb:=#[pP Bf 0,pP Bi 0]) rfl (enters_of func142 (by kernel_rfl) rfl)
  (iR W0 lo p m1 m2 m3 m4 ci nq x a1 c1 a2 c2 a3 c3 y Bf Bi (λk=>k=B6\/k=B7) w7 hW7 HF7 hnq N1 N3 HV HYC HBf HBi ⟨by omega,kf⟩ ⟨by omega,ki⟩ ⟨λk hk=>by omega,by omega,by omega,by omega,by omega,by omega⟩) (λW k o hk h=>⟨h.1.putObj o (by omega),λe=>(h.2 e).trans ⟨rfl,rfl,rfl,(grownBy_putObj' _ _ _).size,λi hi=>World.putObj_heap_other (by omega)⟩⟩) (by omega) (by omega) (λ_=>rfl)
  (λpre W'=>Blk B6 (bV x ci y (Lu x ci y pre)) 162 W'/\Blk B7 #[.bool (Lu x ci y pre).isSome] 4 W'/\Blk n0 #[.func (.func 111) #[] #[pP Bc 0]] 163 W'/\Blk B4 #[X 0,X 0,X 0,X 0,X 0] 162 W'/\But m4 n0 w W'/\n7<=W'.heap.size) ?_ ?_ ?_
  (λz a' W'=>∃Bx,n7<=Bx/\Blk Bx (oV x ci y z) 162 W'/\a'={tmps:=#[.func (.func 142) #[] #[pP Bf 0,pP Bi 0],.func (.func 111) #[] #[pP Bc 0],undef,pP n0 0,pP B4 0,.bool false,pP B6 0,pP B7 0,pP Bx 0,.func (.func 142) #[] #[pP Bf 0,pP Bi 0],.agg (oV x ci y z),undef,undef,undef,undef,undef,undef,undef,undef,undef,undef,undef],defers:=[]}) ?_ ?_ ?_ ?_)
 .rintro s A B row⟨h1,h2,h3,h4,h5,h6⟩hgr hr
  have hne:∀k,k<n7->some k≠row:=λk hk e=>by have:=(hr _ e.symm).1;omega
  exact⟨h1.grown hgr (hne _ (by omega)),h2.grown hgr (hne _ (by omega)),h3.grown hgr (hne _ (by omega)),h4.grown hgr (hne _ (by omega)),h5.trans ⟨hgr.os,hgr.tape,hgr.output,hgr.size,λk hk _=>hgr.block k (by omega) (hne k (by omega))⟩,lT h6 hgr.size⟩
 .rintro s A B⟨h1,h2,h3,h4,h5,h6⟩hB
  exact⟨(hB.block _ h1.lt (by omega) (by omega)).trans h1,(hB.block _ h2.lt (by omega) (by omega)).trans h2,(hB.block _ h3.lt (by omega) (by omega)).trans h3,(hB.block _ h4.lt (by omega) (by omega)).trans h4,h5.trans ⟨hB.os,hB.tape,hB.output,hB.size,λk hk hm=>hB.block k (by omega) hm hm⟩,lT h6 hB.size⟩
 .exact⟨HB6,HB7,HB3,HB4,hbut7,q5⟩
 .rintro z a' _ A B row⟨Bx,h1,h2,h3⟩hgr hr
  refine⟨Bx,h1,h2.grown hgr (λe=>?_),h3⟩;obtain⟨_,o,ho,hc⟩:=hr _ e.symm;rw[show A.heap[Bx]?=_ from h2]at ho;cases ho
  cases hc
 .rintro l' pre z W' K⟨h1,h2,h3,h4,h5,h6⟩hK
  have hKK:=iH hK;have hbl:Below W'.heap.size W' (W'.alloc (Obj.cells (oV x ci y z) 162)):=(Below.refl _ W').alloc nL _;have HI:=iH (And.intro h1 (And.intro h2 (And.intro h3 (And.intro h4 (And.intro h5 (And.intro h6 hbl))))));clear hK h1 h2 h3 h4 h5 hbl;simp only[AF]
  gi_wp2_with fail
  obtain⟨h1,h2,h3,h4,h5,h6,hbl⟩:=HI.out;exact hKK.out _ _ (KeepsFrom.of_below hbl) (KpS.of_below hbl) ⟨h1.below hbl h1.lt,h2.below hbl h2.lt,h3.below hbl h3.lt,h4.below hbl h4.lt,h5.trans (But.of_below (hbl.mono (lT (by omega) h6))),lT h6 hbl.size⟩ ⟨W'.heap.size,h6,Blk.alloc _ _ _,rfl⟩
 .rintro l' pre z a' W' ⟨h1,h2,h3,h4,h5,h6⟩⟨Bx,hBx,hbx,rfl⟩hlt'
  have H2:=iH h2;have H3:=iH h3;have H4:=iH h4;have H5:=iH h5;have HX:=iH hbx;clear h2 h3 h4 h5 hbx;refine wpIn_block ?_
  cases hbst:Lu x ci y pre with
  |none =>
   rw[hbst]at h1 H2;have H1:=iH h1;have HSN:Hid (Lu x ci y (pre++[z])=some z):=by show _=_;rw[Ng,hbst];rfl
   have e7:W'.cell? (E B7 0)=some (.bool false):=H2.out.cell rfl;obtain⟨SB,hSB⟩:∃SB:Bool,SB=false:=⟨_,rfl⟩;have H2':Hid (Blk B7 #[.bool SB] 4 W'):=by rw[hSB];exact H2.out
   clear H2 hbst h1;have H2:=H2';clear H2' hSB;have hth:=H1.out.there;obtain⟨w8,HW8⟩:∃w8,Hid (w8=W'.setCells B6 0 (oV x ci y z).toList):=⟨_,rfl⟩;have hb6:Blk B6 (oV x ci y z) 162 w8:=by rw[HW8.out];exact H1.out.setAll (oV x ci y z) rfl
   have hb7:Blk B7 #[.bool SB] 4 w8:=by rw[HW8.out];exact Bq (by omega) _ _ _ H2
   have hb3:Blk n0 #[.func (.func 111) #[] #[pP Bc 0]] 163 w8:=by rw[HW8.out];exact Bq (by omega) _ _ _ H3
   have hb4:Blk B4 #[X 0,X 0,X 0,X 0,X 0] 162 w8:=by rw[HW8.out];exact Bq (by omega) _ _ _ H4
   have hbt:But m4 n0 w w8:=by rw[HW8.out];exact But.setCellsO (by omega) _ _ _ H5
   have hks:KpS (λk=>k=B6\/k=B7) W' w8:=by rw[HW8.out];exact KpS.setCells (.inl rfl) _ _ _ (KpS.refl _ _)
   have hkf:KeepsFrom w7.heap.size W' w8:=by rw[HW8.out];exact KeepsFrom.setCellsO _ _ _ (KeepsFrom.refl _ _)
   have y0:W'.cell? (E Bx 0)=some (X ((z.1:Nat):Int)):=HX.out.cell rfl;have y1:W'.cell? (E Bx 1)=some (X (n1C y z.2)):=HX.out.cell rfl;have y2:W'.cell? (E Bx 2)=some (X (n2C x ci y z.2)):=HX.out.cell rfl;have y3:W'.cell? (E Bx 3)=some (X (n3C x ci y z.2)):=HX.out.cell rfl;have y4:W'.cell? (E Bx 4)=some (X (n4C x ci y z.2)):=HX.out.cell rfl;have kz:=hb7.cell (o:=0) rfl;have fz:=hb7.frozen 0;have HTH:=iH hth;have HR:=iH (And.intro hb6 (And.intro hb7 (And.intro hb3 (And.intro hb4 (And.intro hbt (And.intro hks hkf))))));clear hth hb6 hb7 hb3 hb4 hbt hks hkf
   gi_wp2_with (first|(refine Fm rfl 162 _ _ rfl B6 0 (oV x ci y z) (by first|rfl|(simp[go_sem];done)) (by first|rfl|(simp[go_sem];done)) HTH Hv (by simp[Value.oneCell']) w8 HW8 ?_))
   refine⟨λ_ h=>(by cases h),?_⟩
   gi_wp2_with (first|(refine Fm rfl 162 _ _ rfl B6 0 (oV x ci y z) (by first|rfl|(simp[go_sem];done)) (by first|rfl|(simp[go_sem];done)) HTH Hv (by simp[Value.oneCell']) w8 HW8 ?_))
   clear y0 y1 y2 y3 y4 kz fz;obtain⟨hb6,hb7,hb3,hb4,hbt,hks,hkf⟩:=HR.out;refine⟨(hkf.trans ((KeepsOthers.setCell _ _ _).from _)),(hks.setCell1 (.inr rfl) 0 _),?_⟩;dsimp only;rw[HSN.out];refine⟨hb6.other (a:=(E B7 0)) (by show B6≠B7;omega) _,hb7.set 0 _,hb3.other (a:=(E B7 0)) (by show n0≠B7;omega) _,hb4.other (a:=(E B7 0)) (by show B4≠B7;omega) _,hbt.setOther (by omega) 0 _,?_⟩;have h9:=hks.size;simp[World.setCell];omega
  | some v =>
   rw[hbst]at h1 H2;have H1:=iH h1;have HBST:=iH hbst;have e7:W'.cell? (E B7 0)=some (.bool true):=H2.out.cell rfl;have e3:W'.cell? (E n0 0)=some (.func (.func 111) #[] #[pP Bc 0]):=H3.out.cell rfl;have z0:W'.cell? (E B6 0)=some (X ((v.1:Nat):Int)):=h1.cell rfl;have z1:W'.cell? (E B6 1)=some (X (n1C y v.2)):=h1.cell rfl;have z2:W'.cell? (E B6 2)=some (X (n2C x ci y v.2)):=h1.cell rfl;have z3:W'.cell? (E B6 3)=some (X (n3C x ci y v.2)):=h1.cell rfl;have z4:W'.cell? (E B6 4)=some (X (n4C x ci y v.2)):=h1.cell rfl;have y0:W'.cell? (E Bx 0)=some (X ((z.1:Nat):Int)):=HX.out.cell rfl;have y1:W'.cell? (E Bx 1)=some (X (n1C y z.2)):=HX.out.cell rfl;have y2:W'.cell? (E Bx 2)=some (X (n2C x ci y z.2)):=HX.out.cell rfl;have y3:W'.cell? (E Bx 3)=some (X (n3C x ci y z.2)):=HX.out.cell rfl;have y4:W'.cell? (E Bx 4)=some (X (n4C x ci y z.2)):=HX.out.cell rfl;have HCC:Hid (Calls prog 111 #[.agg (oV x ci y z),.agg (oV x ci y v),pP Bc 0] W' λe w'=>e=.returned (.bool (btr x ci y z.2 v.2))/\Below W'.heap.size W' w'):=dP _ _ _ _ _ _ _ _ _ _ x.pack p Bc W' ((H5.out.cell (a:=(E Bc 0)) hbcl kc).trans HBC) ((H5.out.cell (a:=(E p 0)) hpl hpm).trans HPK);clear hbst h1
   gi_wp2_with fail
   refine⟨trivial,(CallsIn.inRound l' (callsIn_wide.2 HCC)).mono ?_⟩;rintro e W8⟨rfl,hb8⟩;clear HCC e7 e3 z0 z1 z2 z3 z4 y0 y1 y2 y3 y4;have K1:=qBk H1 hb8;have K2:=qBk H2 hb8;have K3:=qBk H3 hb8;have K4:=qBk H4 hb8;have K5:Hid (But m4 n0 w W8):=H5.out.trans (But.of_below (hb8.mono (by omega)));have KX:=qBk HX hb8;have k6:n7<=W8.heap.size:=lT h6 hb8.size;have HB8:=iH hb8;clear H1 H2 H3 H4 H5 HX hb8;have H1:=K1;have H2:=K2;have H3:=K3;have H4:=K4;have H5:=K5;have HX:=KX;clear K1 K2 K3 K4 K5 KX
   cases hbt:btr x ci y z.2 v.2 with
   |false =>
    have HSN:Hid (Lu x ci y (pre++[z])=some v):=by show _=_;rw[Ng,HBST.out];simp[Qc,hbt]
    clear hbt
    gi_wp2_with fail
    refine⟨KeepsFrom.of_below HB8,KpS.of_below HB8,?_⟩;dsimp only;rw[HSN.out];exact⟨H1,H2,H3,H4,H5,k6⟩
   |true =>
    have HSN:Hid (Lu x ci y (pre++[z])=some z):=by show _=_;rw[Ng,HBST.out];simp[Qc,hbt]
    obtain⟨SB,hSB⟩:∃SB:Bool,SB=(some v).isSome:=⟨_,rfl⟩;rw[<-hSB]at H2;clear hbt hSB;have hth:=H1.out.there;obtain⟨w8,HW8⟩:∃w8,Hid (w8=W8.setCells B6 0 (oV x ci y z).toList):=⟨_,rfl⟩;have hb6:Blk B6 (oV x ci y z) 162 w8:=by rw[HW8.out];exact H1.out.setAll (oV x ci y z) rfl
    have hb7:Blk B7 #[.bool SB] 4 w8:=by rw[HW8.out];exact Bq (by omega) _ _ _ H2
    have hb3:Blk n0 #[.func (.func 111) #[] #[pP Bc 0]] 163 w8:=by rw[HW8.out];exact Bq (by omega) _ _ _ H3
    have hb4:Blk B4 #[X 0,X 0,X 0,X 0,X 0] 162 w8:=by rw[HW8.out];exact Bq (by omega) _ _ _ H4
    have hbt:But m4 n0 w w8:=by rw[HW8.out];exact But.setCellsO (by omega) _ _ _ H5
    have hks:KpS (λk=>k=B6\/k=B7) W8 w8:=by rw[HW8.out];exact KpS.setCells (.inl rfl) _ _ _ (KpS.refl _ _)
    have hkf:KeepsFrom w7.heap.size W8 w8:=by rw[HW8.out];exact KeepsFrom.setCellsO _ _ _ (KeepsFrom.refl _ _)
    have y0:W8.cell? (E Bx 0)=some (X ((z.1:Nat):Int)):=HX.out.cell rfl;have y1:W8.cell? (E Bx 1)=some (X (n1C y z.2)):=HX.out.cell rfl;have y2:W8.cell? (E Bx 2)=some (X (n2C x ci y z.2)):=HX.out.cell rfl;have y3:W8.cell? (E Bx 3)=some (X (n3C x ci y z.2)):=HX.out.cell rfl;have y4:W8.cell? (E Bx 4)=some (X (n4C x ci y z.2)):=HX.out.cell rfl;have kz:=hb7.cell (o:=0) rfl;have fz:=hb7.frozen 0;have HTH:=iH hth;have HR:=iH (And.intro hb6 (And.intro hb7 (And.intro hb3 (And.intro hb4 (And.intro hbt (And.intro hks hkf))))));clear hth hb6 hb7 hb3 hb4 hbt hks hkf
    gi_wp2_with (first|(refine Fm rfl 162 _ _ rfl B6 0 (oV x ci y z) (by first|rfl|(simp[go_sem];done)) (by first|rfl|(simp[go_sem];done)) HTH Hv (by simp[Value.oneCell']) w8 HW8 ?_))
    clear y0 y1 y2 y3 y4 kz fz;obtain⟨hb6,hb7,hb3,hb4,hbt,hks,hkf⟩:=HR.out;refine⟨(KeepsFrom.of_below HB8).trans (hkf.trans ((KeepsOthers.setCell _ _ _).from _)),(KpS.of_below HB8).trans (hks.setCell1 (.inr rfl) 0 _),?_⟩;dsimp only;rw[HSN.out];refine⟨hb6.other (a:=(E B7 0)) (by show B6≠B7;omega) _,hb7.set 0 _,hb3.other (a:=(E B7 0)) (by show n0≠B7;omega) _,hb4.other (a:=(E B7 0)) (by show B4≠B7;omega) _,hbt.setOther (by omega) 0 _,?_⟩;have h9:=hks.size;simp[World.setCell];omega
 rintro D xs W' hD rfl⟨h1,h2,h3,h4,h5,h6⟩hMM hK;have HMM:Hid (MemoAt m4 (nq+13*x.berths.length) x.berths W'):=hMM.1;have HBE:Hid (x.berths=[]->Below n0 w W'):=λe=>HB70.out.trans ((hMM.2 e).mono (by omega))
 clear hMM;obtain⟨O9,hO⟩:∃O9,chT x ci y x.berths.length=O9:=⟨_,rfl⟩;have hO':Lu x ci y (Kj x ci y x.berths.length)=O9:=hO;rw[hO']at h1 h2;have HO:=iH hO;have hth:W'.there B4 0 5:=h4.there;have HS0:=iH (And.intro h1 (And.intro h2 (And.intro hth (And.intro h5 (And.intro hK h6)))));have hD7:n7<=D:=by omega
 clear hO hO' h1 h2 h3 h4 h5 h6 hK hth hD;go_upto_region 7 with fail;refine Yp ?_;refine wp_region_held_drew (S:=λwy=>(MemoAt m4 (nq+13*x.berths.length) x.berths wy/\(x.berths=[]->Below n0 w wy))/\Blk B6 (bV x ci y O9) 162 wy/\Blk B7 #[.bool O9.isSome] 4 wy/\wy.there B4 0 5/\But m4 n0 w wy/\wy.heap[D]?=some (.deferred (some []))/\n7<=wy.heap.size) (by kernel_rfl) ⟨⟨HMM.out.drew,λe=>(HBE e).drew⟩,HS0.out.1.drew,HS0.out.2.1.drew,HS0.out.2.2.1,HS0.out.2.2.2.1.drew,HS0.out.2.2.2.2.1,HS0.out.2.2.2.2.2⟩ (λhS=>?_);clear HS0 HMM HBE;generalize W'.drew=wa at *;refine tk 0 ⟨some 20,_,_,_,_,none⟩ (.agg (bV x ci y O9).toList.toArray) rfl (yieldsIf_load_mid (by rfl) _ _ rfl B6 (0) rfl (bV x ci y O9).toList _ (λ_ h=>h.2.1.rangeA) underlying162 rfl Uq) hS ?_;refine tl 1 21 (.bool O9.isSome) (E B7 0) rfl (λwy hy=>hy.2.2.1.cell rfl) hS ?_;refine rd1 2 ⟨none,_,_,_,_,none⟩ rfl (λK hK=>?_);refine wp_store_mid 162 (.tmp 4) (.tmp 20) (by rfl) B4 0 (bV x ci y O9) (by rfl) (by first|rfl|simp[Act.eval]) (by rw[Th];exact hS.2.2.2.1) (by rw[Th];exact Hv) (zU x ci y O9) ?_;have HRG:Hid ((wa.setCells B4 0 (bV x ci y O9).toList).rangeAt B4 0 (bV x ci y O9).toList):=World.rangeAt_setCells_same _ _ _ _ (by rw[Array.length_toList,Th];exact hS.2.2.2.1);refine hK.out _ _ ⟨⟨hS.1.1.setCells _ _ (by omega),λe=>Ae (by omega) _ _ _ (hS.1.2 e)⟩,Bq (by omega) _ _ _ hS.2.1,Bq (by omega) _ _ _ hS.2.2.1,World.there_setCells hS.2.2.2.1 _ _ _,But.setCellsO (by omega) _ _ _ hS.2.2.2.2.1,(Aw (by omega) _ _ _).trans hS.2.2.2.2.2.1,lT hS.2.2.2.2.2.2 (KeepsFrom.setCellsO (B:=0) _ _ _ (KeepsFrom.refl _ _)).size⟩ (λhS=>?_);clear hK K;generalize wa.setCells B4 0 (bV x ci y O9).toList=wb at *;refine tz 3 5 (.bool O9.isSome) ?_;have HSB:=iH hS;refine td ?_;clear hS;refine⟨rfl,?_⟩;go_wp2_with fail;refine⟨by simp,.inl ⟨_,_,rfl,run_takeDeferred HSB.out.2.2.2.2.2.1,?_⟩⟩;refine⟨_,fC rfl _ _ B4 (bV x ci y O9).toList _ rfl (λj v hj=>(World.cell?_of_block (w:=wb) (World.putObj_heap_other (by show B4≠D;omega))).trans (HRG j v hj)) underlying162 rfl Uq,?_,?_,HSB.out.1.1.putObj _ (by omega),λe=>?_⟩
 .rw[HO.out]
  simp
 .rw[HN0.out]
  exact HSB.out.2.2.2.2.1.trans (c:=wb.putObj D (.deferred none)) ⟨rfl,rfl,rfl,(grownBy_putObj' _ _ _).size,λk hk _=>World.putObj_heap_other (by omega)⟩
 rw[HN0.out];exact(HSB.out.1.2 e).trans ⟨rfl,rfl,rfl,(grownBy_putObj' _ _ _).size,λk hk=>World.putObj_heap_other (by omega)⟩
end Go.Proofs.YthboopnmbglkjaaGreat
