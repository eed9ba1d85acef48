import Derived.Test.YthboopnmbglkjaaGreatVa3
set_option maxHeartbeats 2000000
set_option maxRecDepth 100000
namespace Go.Proofs.YthboopnmbglkjaaGreat
open Go.RowKit Go.WideMaps Go.Maps Tryz
def Bd(cs:List Cpy)(s:BA)(but:Int):Nat->Int×Int×Int
 |0=>(0,0,0)
 |k+1=>match cs[k]? with
  |some c=>if c.at_=s/\(k:Int)≠but then(wrap64 ((Bd cs s but k).1+1),wrap64 ((Bd cs s but k).2.1+c.room),wrap64 ((Bd cs s but k).2.2+c.hold))else Bd cs s but k
  |none=>Bd cs s but k
theorem hP{cs:List Cpy}{s:BA}{but:Int}{k:Nat}{c:Cpy}(hk:cs[k]?=some c)(h1:c.at_=s)(h2:(k:Int)≠but):Bd cs s but (k+1)=(wrap64 ((Bd cs s but k).1+1),wrap64 ((Bd cs s but k).2.1+c.room),wrap64 ((Bd cs s but k).2.2+c.hold)):=by
 conv=>lhs;unfold Bd
 rw[hk];simp[h1,h2]
theorem Yj{cs:List Cpy}{s:BA}{but:Int}{k:Nat}{c:Cpy}(hk:cs[k]?=some c)(h:¬(c.at_=s/\(k:Int)≠but)):Bd cs s but (k+1)=Bd cs s but k:=by
 conv=>lhs;unfold Bd
 rw[hk];simp only[if_neg h]
theorem Bn{a b:BA}(h:¬a=b):(a.toList==b.toList)=false:=by
 rw[ByteArray.toList_eq,ByteArray.toList_eq]
 have:¬a.data.toList=b.data.toList:=λe=>h (by
  cases a with|mk x=>cases b with|mk y=>cases x;cases y;simp at e;simp[e])
 simpa using this
theorem Bm{a b:BA}(h:a=b):(a.toList==b.toList)=true:=by subst h;simp
def He(bs:List Brt)(s:BA):Int:=match bs.findIdx? (λb=>decide (b.name=s))with
 |some k=>k
 |none=>-1
theorem mI{bs:List Brt}{s:BA}{k:Nat}{b:Brt}(hk:bs[k]?=some b)(h:b.name=s)(ho:∀j b,j<k->bs[j]?=some b->b.name≠s):He bs s=k:=by
 have:bs.findIdx? (λb=>decide (b.name=s))=some k:=by
  rw[List.findIdx?_eq_some_iff_getElem];have hlt:=Af hk;rw[gE hlt]at hk;injection hk with hk;refine⟨hlt,by simp[hk,h],λj hj=>?_⟩;have:=ho j bs[j] hj (gE (by omega));simpa using this
 simp[He,this]
theorem qU{bs:List Brt}{s:BA}(ho:∀j b,j<bs.length->bs[j]?=some b->b.name≠s):He bs s=-1:=by
 have:bs.findIdx? (λb=>decide (b.name=s))=none:=by
  rw[List.findIdx?_eq_none_iff];intro b hb;obtain⟨j,hj⟩:=List.getElem?_of_mem hb;simpa using ho j b (Af hj) hj
 simp[He,this]
theorem Ma(x:Flt)(a1:OA)(c1:Nat)(a2:OA)(c2:Nat)(a3:OA)(c3:Nat)(lo:Nat)(s:BA)(w:World)(n1:sB lo w a1 x.berths)(hl:x.berths.length<=1048576) :
  Calls prog 48 #[.agg (ffA x a1 c1 a2 c2 a3 c3),Y s] w λe w'=>e=.returned (X (He x.berths s))/\bW w w':=by
 have HI:Hid (sB lo w a1 x.berths):=n1;clear n1
 try unfold ffA
 generalize hbs:x.berths=bs at *;clear hbs;go_enter func48,ntmps48
 go_wp2
 go_loopw [5] (λi wr=>∃k:Nat,k<=bs.length/\i=X k/\wr.cell? (E w.heap.size 1)=some (.slice a1 bs.length c1)/\Hid (∀j b,j<k->bs[j]?=some b->b.name≠s)/\bW w wr) (λi _=>bs.length-(intOf i).toNat)
 case atStart=>exact⟨0,zL,rfl,by simp,λj b h=>by omega,by go_grown⟩
 obtain⟨k,hk,rfl,hcell,ho,hbel⟩:=hrel;by_cases hlt:k<bs.length
 .obtain⟨x,hx⟩:=gXe hlt
  obtain⟨b,o,rfl,_,_,hc⟩:=(HI.out.below BrtC.holds hbel nL).at hx;obtain⟨a9,c9,q0,q1,q2,q3,q4,q5,z0,z1,n9⟩:=hc;simp only[Nat.add_zero]at q0;have HX:Hid (bs[k]?=some x):=hx;clear hx q1 q2 q3 q4 q5 z0 z1 n9;by_cases h:x.name=s
  .have HZ:Hid (He bs s=k):=mI HX h ho.out
   have ht:=Bm h;clear h
   go_wp2
   go_ret;exact⟨Al HZ.out.symm,hbel⟩
  have ht:=Bn h
  go_wp2
  go_roundw
  case rel =>
   refine⟨k+1,by omega,by go_num,hcell,?_,hbel⟩;intro j y hj hy;by_cases e:j=k
   .subst e
    rw[HX.out]at hy;cases hy
    exact h
   exact ho.out j y (by omega) hy
  simp[intOf];omega
 have hke:k=bs.length:=by omega
 have HZ:Hid (He bs s=-1):=qU (hke▸ho.out)
 go_wp2
 go_ret;exact⟨Al HZ.out.symm,hbel⟩
theorem Tv:(prog.info? 187).map (·.size)=some 3:=by kernel_rfl
theorem BN:Po 187 3:=⟨_,underlying187,rfl,Tv⟩
def UseAt(w:World)(g:Nat)(u:Int×Int×Int):Prop :=
 w.rangeAt g 0 [X u.1,X u.2.1,X u.2.2]/\w.there g 0 3
theorem UseAt.below{w w':World}{g B:Nat}{u:Int×Int×Int}(h:UseAt w g u)(hb:Below B w w')(hB:g<B):UseAt w' g u:=by
 refine⟨λj v hj=>?_,λj hj=>?_⟩
 .rw[hb.cell (p:=⟨g,_,none⟩) hB];exact h.1 j v hj
 rw[hb.cell (p:=⟨g,_,none⟩) hB,hb.frozen (p:=⟨g,_,none⟩) hB];exact h.2 j hj
theorem UseAt.cells{w:World}{g:Nat}{u:Int×Int×Int}(h:UseAt w g u):w.cell? (E g 0)=some (X u.1)/\w.cell? (E g 1)=some (X u.2.1)/\w.cell? (E g 2)=some (X u.2.2) :=
 ⟨h.1 0 _ rfl,h.1 1 _ rfl,h.1 2 _ rfl⟩
theorem UseAt.set{w:World}{g:Nat}{u:Int×Int×Int}(h:UseAt w g u)(v:Int×Int×Int):UseAt (w.setCells g 0 [X v.1,X v.2.1,X v.2.2]) g v :=
 ⟨World.rangeAt_setCells_same _ _ _ _ h.2,World.there_setCells h.2 _ _ _⟩
theorem dW(p:Nat)(cs:List Cpy)(a3:OA)(c3 lo:Nat)(s:BA)(but:Int)(w:World)(hp:w.cell? (E p 3)=some (.slice a3 cs.length c3))(n3:sC lo w a3 cs)(hl:cs.length<=1048576) :
  Calls prog 133 #[pP p 0,Y s,X but] w λe w'=>e=.returned (.agg #[X (Bd cs s but cs.length).1,X (Bd cs s but cs.length).2.1,X (Bd cs s but cs.length).2.2])/\bW w w':=by
 have HI:Hid (sC lo w a3 cs):=n3;have hpl:=block_lt_of_cell hp;clear n3;go_enter func133,ntmps133
 go_wp2
 go_loopw [16] (λi wr=>∃k:Nat,k<=cs.length/\i=X k/\w.heap.size+1<wr.heap.size/\Hid (UseAt wr (w.heap.size+1) (Bd cs s but k))/\Hid (wr.there w.heap.size 0 3)/\bW w wr) (λi _=>cs.length-(intOf i).toNat)
 case atStart =>
  refine⟨0,zL,rfl,by simp,⟨?_,?_⟩,?_,by go_grown⟩
  .exact Aa (by simp[Bd]) (Aa (by simp[Bd]) (Aa (by simp[Bd]) (Am _ _ _)))
  .exact Ah (by simp;rfl) (by simp) (Ah (by simp;rfl) (by simp) (Ah (by simp;rfl) (by simp) (Fa _ _ _)))
  exact Ah (by simp;rfl) (by simp) (Ah (by simp;rfl) (by simp) (Ah (by simp;rfl) (by simp) (Fa _ _ _)))
 obtain⟨k,hk,rfl,hsz,hu,ht,hbel⟩:=hrel;by_cases hlt:k<cs.length
 .obtain⟨x,hx⟩:=gXe hlt
  obtain⟨b,o,rfl,_,_,hc⟩:=(HI.out.below CpyC.holds hbel nL).at hx;obtain⟨a7,c7,q0,q1,q2,q3,q4,q5,q6,q7,q8,q9,q10,q11,_,_,_,_,_,_,_⟩:=hc;simp only[Nat.add_zero]at q0 q1 q2 q3 q4 q5 q6 q7 q8 q9 q10 q11;have HRA:Hid (wr.rangeAt b (o+k*12) (ccL x a7 c7)):=Aa q0 (Aa q1 (Aa q2 (Aa q3 (Aa q4 (Aa q5 (Aa q6 (Aa q7 (Aa q8 (Aa q9 (Aa q10 (Aa q11 (Am _ _ _))))))))))));have HX:Hid (cs[k]?=some x):=hx;have HB:Hid (bW w wr):=hbel;clear hx q0 q1 q2 q3 q4 q5 q6 q7 q8 q9 q10 q11 hbel;go_upto_region 5 with(first|(refine qLr Hb HRA ?_));have hal:=(Below.refl _ wr).alloc nL (Obj.cells (ccA x a7 c7) 54);have e4:(wr.alloc (Obj.cells (ccA x a7 c7) 54)).cell? (E wr.heap.size 4)=some (X x.room):=by simp
  have e5:(wr.alloc (Obj.cells (ccA x a7 c7) 54)).cell? (E wr.heap.size 5)=some (X x.hold):=by simp
  have e11:(wr.alloc (Obj.cells (ccA x a7 c7) 54)).cell? (E wr.heap.size 11)=some (Y x.at_):=by simp
  have HU4:Hid (UseAt (wr.alloc (Obj.cells (ccA x a7 c7) 54)) (w.heap.size+1) (Bd cs s but k)):=hu.out.below hal (by omega);have HT4:Hid ((wr.alloc (Obj.cells (ccA x a7 c7) 54)).there w.heap.size 0 3):=World.there_alloc ht.out _;have HB4:Hid (bW w (wr.alloc (Obj.cells (ccA x a7 c7) 54))):=HB.out.alloc (by omega) _;have hs4:w.heap.size+1<(wr.alloc (Obj.cells (ccA x a7 c7) 54)).heap.size:=by simp;omega
  clear hal hu ht HB;generalize wr.alloc (Obj.cells (ccA x a7 c7) 54)=w4 at *;obtain⟨u0,u1,u2⟩:=HU4.out.cells;by_cases h:x.at_=s/\(k:Int)≠but
  .have HV:Hid (Bd cs s but (k+1)=_):=hP HX h.1 h.2
   have hte:=Bm h.1;have hkb:=h.2;obtain⟨w5,hw5⟩:∃w',w'=w4.setCells (w.heap.size+1) 0 [X (wrap64 ((Bd cs s but k).1+1)),X (wrap64 ((Bd cs s but k).2.1+x.room)),X (wrap64 ((Bd cs s but k).2.2+x.hold))]:=⟨_,rfl⟩;have HW5:Hid (w5=w4.setCells (w.heap.size+1) 0 [X (wrap64 ((Bd cs s but k).1+1)),X (wrap64 ((Bd cs s but k).2.1+x.room)),X (wrap64 ((Bd cs s but k).2.2+x.hold))]):=hw5;have HU5:Hid (UseAt w5 (w.heap.size+1) (Bd cs s but (k+1))):=by rw[hw5,HV.out];exact HU4.out.set (wrap64 ((Bd cs s but k).1+1),wrap64 ((Bd cs s but k).2.1+x.room),wrap64 ((Bd cs s but k).2.2+x.hold))
   have HT5:Hid (w5.there w.heap.size 0 3):=by rw[hw5];exact World.there_setCells HT4 _ _ _
   have HB5:Hid (bW w w5):=by rw[hw5];exact Ae (by omega) _ _ _ HB4
   have hs5:w.heap.size+1<w5.heap.size:=by rw[hw5,Be];exact hs4
   have HTU:Hid (w4.there (w.heap.size+1) 0 3):=HU4.out.2;clear h hw5 HV HU4 HT4 HB4;generalize Bd cs s but k=U at *;go_wp2_with(first|(refine Ai rfl 187 _ _ rfl (w.heap.size+1) 0 #[X (wrap64 (U.1+1)),X (wrap64 (U.2.1+x.room)),X (wrap64 (U.2.2+x.hold))] rfl rfl HTU Tv (by simp[Value.oneCell']) w5 HW5 ?_));go_roundw
   case rel=>exact⟨k+1,by omega,by go_num,hs5,HU5,HT5,HB5⟩
   simp[intOf];omega
  have HV:Hid (Bd cs s but (k+1)=Bd cs s but k):=Yj HX h;by_cases h1:x.at_=s
  .have hte:=Bm h1
   have hkb:(k:Int)=but:=by
    by_cases e:(k:Int)=but
    .exact e
    exact absurd ⟨h1,e⟩ h
   clear h h1
   go_wp2
   go_roundw
   case rel=>exact⟨k+1,by omega,by go_num,hs4,by rw[HV.out];exact HU4,HT4,HB4⟩
   simp[intOf];omega
  have hte:=Bn h1;clear h
  go_wp2
  go_roundw
  case rel=>exact⟨k+1,by omega,by go_num,hs4,by rw[HV.out];exact HU4,HT4,HB4⟩
  simp[intOf];omega
 have hke:k=cs.length:=by omega
 subst hke;generalize hU:Bd cs s but cs.length=U at *;have HUU:Hid (Bd cs s but cs.length=U):=hU;clear hU;have HRU:Hid (wr.rangeAt (w.heap.size+1) 0 [X U.1,X U.2.1,X U.2.2]):=hu.out.1;obtain⟨w5,hw5⟩:∃w',w'=wr.setCells w.heap.size 0 [X U.1,X U.2.1,X U.2.2]:=⟨_,rfl⟩;have HW5:Hid (w5=wr.setCells w.heap.size 0 [X U.1,X U.2.1,X U.2.2]):=hw5;have HR5:Hid (w5.rangeAt w.heap.size 0 [X U.1,X U.2.1,X U.2.2]):=by rw[hw5];exact World.rangeAt_setCells_same _ _ _ _ ht.out
 have HB5:Hid (bW w w5):=by rw[hw5];exact Ae nL _ _ _ hbel
 clear hw5 hbel;go_wp2_with(first|(refine qLr BN HRU ?_)|(refine Ai rfl 187 _ _ rfl w.heap.size 0 #[X U.1,X U.2.1,X U.2.2] rfl rfl ht.out Tv (by simp[Value.oneCell']) w5 HW5 ?_));exact bodyPost_ret (Ay rfl _ _ w.heap.size [X U.1,X U.2.1,X U.2.2] _ rfl HR5 underlying187 rfl Tv) rfl ⟨by rw[HUU.out],HB5⟩
def FndIn(p:Nat)(x:Flt)(a1:OA)(c1:Nat)(a2:OA)(c2:Nat)(a3:OA)(c3:Nat)(w:World):Prop :=
 w.cell? (E p 1)=some (.slice a1 x.berths.length c1)/\w.cell? (E p 2)=some (.slice a2 x.services.length c2)/\w.cell? (E p 3)=some (.slice a3 x.copies.length c3)
theorem FndIn.below{p:Nat}{x:Flt}{a1:OA}{c1:Nat}{a2:OA}{c2:Nat}{a3:OA}{c3:Nat}{w w':World}{B:Nat}(h:FndIn p x a1 c1 a2 c2 a3 c3 w)(hb:Below B w w')(hB:p<B):FndIn p x a1 c1 a2 c2 a3 c3 w' :=
 ⟨(hb.cell (p:=(E p 1)) hB).trans h.1,(hb.cell (p:=(E p 2)) hB).trans h.2.1,(hb.cell (p:=(E p 3)) hB).trans h.2.2⟩
def Dn(x:Flt):Bool:=decide (x.berths.length<=12)&&decide (x.services.length<=30)&&decide (x.copies.length<=60)
theorem yA(p:Nat)(x:Flt)(a1:OA)(c1:Nat)(a2:OA)(c2:Nat)(a3:OA)(c3:Nat)(w:World)(hp:FndIn p x a1 c1 a2 c2 a3 c3 w) :
  Calls prog 94 #[pP p 0] w (Rt (.bool (Dn x)) w):=by
 obtain⟨p1,p2,p3⟩:=hp;by_cases h1:x.berths.length<=12
 .by_cases h2:x.services.length<=30
  .by_cases h3:x.copies.length<=60
   .have HC:Hid (Dn x=true):=by show _=_;simp[Dn,h1,h2,h3]
    go_enter func94,ntmps94
    go_wp2
    go_ret;exact⟨Ab (by rw[HC.out];exact decide_eq_true (by omega)),by go_grown⟩
   have HC:Hid (Dn x=false):=by show _=_;simp[Dn,h3]
   go_enter func94,ntmps94
   go_wp2
   go_ret;exact⟨Ab (by rw[HC.out];exact decide_eq_false (by omega)),by go_grown⟩
  have HC:Hid (Dn x=false):=by show _=_;simp[Dn,h2]
  go_enter func94,ntmps94
  go_wp2
  go_ret;exact⟨Ab HC.out.symm,by go_grown⟩
 have HC:Hid (Dn x=false):=by show _=_;simp[Dn,h1]
 go_enter func94,ntmps94
 go_wp2
 go_ret;exact⟨Ab HC.out.symm,by go_grown⟩
def En(x:Flt):Bool:=Cq (x.berths.map (·.name)) x.berths.length&&Cq (x.services.map (·.name)) x.services.length&&Cq (x.copies.map (·.name)) x.copies.length
theorem xT(p:Nat)(x:Flt)(a1:OA)(c1:Nat)(a2:OA)(c2:Nat)(a3:OA)(c3:Nat)(lo:Nat)(w:World)(hp:FndIn p x a1 c1 a2 c2 a3 c3 w)(n1:sB lo w a1 x.berths)(n2:sV lo w a2 x.services)(n3:sC lo w a3 x.copies)(l1:x.berths.length<=1048576)(l2:x.services.length<=1048576)(l3:x.copies.length<=1048576) :
  Calls prog 95 #[pP p 0] w (Rt (.bool (En x)) w):=by
 have N1:=iH n1;have N2:=iH n2;have N3:=iH n3;have HP:=iH hp;have hpl:p<w.heap.size:=block_lt_of_cell hp.1;obtain⟨p1,_,_⟩:=hp;clear n1 n2 n3;go_enter func95,ntmps95;go_wp2_with fail;refine(kP x.berths a1 c1 lo _ N1 l1).mono ?_;rintro e w1⟨rfl,hb1⟩;have HP1:Hid (FndIn p x a1 c1 a2 c2 a3 c3 w1):=HP.out.below hb1 hpl;have HB1:=iH hb1;clear hb1 p1;cases h1:Cq (x.berths.map (·.name)) x.berths.length
 .have HC:Hid (En x=false):=by show _=_;simp only[En,h1,Bool.false_and]
  clear h1
  go_wp2
  go_ret;exact⟨Ab HC.out.symm,HB1⟩
 have H1:=iH h1;clear h1;obtain⟨_,p2,_⟩:=HP1.out;go_wp2_with fail;refine(jD x.services a2 c2 lo _ (N2.out.below SvcC.holds HB1 nL) l2).mono ?_;rintro e w2⟨rfl,hb2⟩;have HP2:Hid (FndIn p x a1 c1 a2 c2 a3 c3 w2):=HP1.out.below hb2 (lL hpl HB1.out.size);have HB2:=qTH HB1 hb2;clear hb2 p2;cases h2:Cq (x.services.map (·.name)) x.services.length
 .have HC:Hid (En x=false):=by show _=_;simp only[En,h2,Bool.false_and,Bool.and_false]
  clear h2
  go_wp2
  go_ret;exact⟨Ab HC.out.symm,HB2⟩
 have H2:=iH h2;clear h2;obtain⟨_,_,p3⟩:=HP2.out;go_wp2_with fail;refine(iW x.copies a3 c3 lo _ (N3.out.below CpyC.holds HB2 nL) l3).mono ?_;rintro e w3⟨rfl,hb3⟩;have HB3:=qTH HB2 hb3;have HC:Hid (En x=Cq (x.copies.map (·.name)) x.copies.length):=by show _=_;simp only[En,H1.out,H2.out,Bool.true_and]
 clear hb3 p3
 go_wp2
 go_ret;exact⟨Ab HC.out.symm,HB3⟩
def Fd(xs:List Svc):Bool:=xs.all λs=>inR s.spare 0 60
theorem uW(p:Nat)(xs:List Svc)(a:OA)(cap lo:Nat)(w:World)(hp:w.cell? (E p 2)=some (.slice a xs.length cap))(hin:sV lo w a xs) :
  Calls prog 97 #[pP p 0] w (Rt (.bool (Fd xs)) w):=by
 have hlen:=hin.1;unfold maxLen at hlen;have HI:=iH hin;clear hin;go_enter func97,ntmps97
 go_wp2
 go_loopw [11] (λi wr=>∃k:Nat,k<=xs.length/\i=X k/\Hid (∀j x,j<k->xs[j]?=some x->inR x.spare 0 60=true)/\bW w wr) (λi _=>xs.length-(intOf i).toNat)
 case atStart=>exact⟨0,zL,rfl,λj x h=>absurd h (Nat.not_lt_zero _),by go_grown⟩
 obtain⟨k,hk,rfl,ho,hbel⟩:=hrel;by_cases hlt:k<xs.length
 .obtain⟨x,hx⟩:=gXe hlt
  obtain⟨b,o,rfl,_,_,hc⟩:=(HI.out.below SvcC.holds hbel nL).at hx;obtain⟨q0,q1,_⟩:=hc;simp only[Nat.add_zero]at q0 q1;have HX:=iH hx;have HB:=iH hbel;have HSZ:Hid (w.heap.size<=wr.heap.size):=hbel.size;clear hx hbel;go_wp2_with fail;refine(Jv _ _ _ _).mono ?_;rintro e w6⟨rfl,hb6⟩;have HB6:Hid (bW w w6):=(HB.out.alloc HSZ _).trans (hb6.mono (HB.out.alloc HSZ _).size);clear hb6 HB HSZ q0 q1;cases hi:inR x.spare 0 60
  .have HC:Hid (Fd xs=false):=by
    show _=_
    exact List.all_eq_false.mpr ⟨x,List.mem_of_getElem? HX,by simp[hi]⟩
   clear hi
   go_wp2
   go_ret;exact⟨Ab HC.out.symm,HB6⟩
  have HO:Hid (∀j y,j<k+1->xs[j]?=some y->inR y.spare 0 60=true):=by
   intro j y hj hy;by_cases e:j=k
   .subst e
    rw[HX.out]at hy;cases hy
    exact hi
   exact ho.out j y (by omega) hy
  clear hi ho
  go_wp2
  go_roundw
  case rel=>exact⟨k+1,by omega,by go_num,HO,HB6⟩
  simp[intOf];omega
 have hke:k=xs.length:=by omega
 subst hke;have HC:Hid (Fd xs=true):=by
  show _=_
  simp only[Fd,List.all_eq_true];intro x hx;obtain⟨j,hj,e⟩:=List.mem_iff_getElem.mp hx;exact ho.out j x hj (by rw[gE hj,e])
 clear ho
 go_wp2
 go_ret;exact⟨Ab HC.out.symm,hbel⟩
def Mx(ms:List BA):Nat->Bool
 |0=>match ms[0]? with
  |none=>true
  |some m=>Eb m&&decide (Cm (Av m) (Db ms ms.length)<=1)
 |j+1=>match ms[j+1]?,ms[j]? with
  |some m,some t=>Eb m&&Op.bytesLess t.toList m.toList&&decide (Cm (Av m) (Db ms ms.length)<=1)
  |_,_=>true
def Oo(ms:List BA):Nat->Bool
 |0=>true
 |k+1=>Oo ms k&&Mx ms k
def Hk(ms:List BA):Bool:=decide (ms.length<=10)&&Oo ms ms.length
theorem Wo{ms:List BA}{k:Nat}(h:Mx ms k=false):∀n,k<n->Oo ms n=false
 |0,hn=>absurd hn (Nat.not_lt_zero _)
 |n+1,hn=>by
  by_cases e:k=n
  .subst e;simp only[Oo,h,Bool.and_false]
  simp only[Oo,Wo h n (by omega),Bool.false_and]
theorem Zf{ms:List BA}{k:Nat}(h:Oo ms k=true)(h':Mx ms k=true):Oo ms (k+1)=true:=by
 simp only[Oo,h,h',Bool.and_self]
theorem iV{ms:List BA}{k:Nat}(h:Mx ms k=false)(hk:k<ms.length):Hk ms=false:=by
 simp only[Hk,Wo h _ hk,Bool.and_false]
theorem fG(ms:List BA)(a:OA)(cap lo:Nat)(w:World)(hin:sX lo w a ms) :
  Calls prog 130 #[.slice a ms.length cap] w (Rt (.bool (Hk ms)) w):=by
 have hlen:=hin.1;unfold maxLen at hlen;have HI:=iH hin;clear hin;by_cases h10:ms.length<=10
 ·have HM:Hid (Hk ms=Oo ms ms.length):=by show _=_;simp[Hk,h10]
  have HF:Hid (∀k,Mx ms k=false->k<ms.length->Hk ms=false):=λk h hk=>iV h hk
  go_enter func130,ntmps130;go_wp2_with fail;refine(Sr ms a cap lo _ HI (by omega)).mono ?_;rintro e w1⟨mb,n,rfl,ho1,hb1⟩;have HO1:=iH ho1;have HB1:=iH hb1;clear ho1 hb1;have HCN:Hid (∀t,(Fy (Db ms ms.length)).atKey (kOf t) (.lit (.int .i64 0))=.lit (.int .i64 ((Cm t (Db ms ms.length):Nat):Int))):=λt=>Ns t _
  have HA0:Hid (∀m,ms[0]?=some m->Mx ms 0=(Eb m&&decide (Cm (Av m) (Db ms ms.length)<=1))):=λm h=>by simp only[Mx,h]
  have HAJ:Hid (∀j m t,ms[j+1]?=some m->ms[j]?=some t->Mx ms (j+1)=(Eb m&&Op.bytesLess t.toList m.toList&&decide (Cm (Av m) (Db ms ms.length)<=1))):=λj m t h h'=>by simp only[Mx,h,h']
  have HKL:Hid ((Db ms ms.length).length<=2*ms.length):=Re ms _;generalize Db ms ms.length=R at *
  go_wp2
  go_loopw [16] (λi wr=>∃k:Nat,k<=ms.length/\i=X k/\Hid (Oo ms k=true)/\Hid (wr.ownsMap prog 9 (plainElem prog 3) mb n (Fy R))/\Hid (bW w wr)) (λi _=>ms.length-(intOf i).toNat)
  case atStart=>exact⟨0,zL,rfl,rfl,HO1,HB1⟩
  clear HO1 HB1;obtain⟨k,hk,rfl,ht,ho,hb⟩:=hrel;by_cases hlt:k<ms.length
  .obtain⟨m,hm⟩:=gXe hlt
   obtain⟨b,o,rfl,_,_,hc⟩:=(HI.out.below StrC.holds hb.out nL).at hm;obtain⟨q0,z0⟩:=hc;simp only[Nat.mul_one,Nat.add_zero]at q0;have HX:=iH hm;have HZ:=iH z0;clear hm z0;go_wp2_with fail;refine(Vl m _ HZ).mono ?_;rintro e w2⟨rfl,hb2⟩;have HB2:=qTH hb hb2;have HO2:=iH (Ag ho.out hb2 ho.out.lt);have HI2:=iH (HI.out.below StrC.holds HB2 nL);clear hb2 hb ho q0;have hkn:keyOf prog 9 (Y (Av m))=some (kOf (Av m)):=keyOf_string_mk underlying9 (Lp HZ)
   cases k with
   | zero =>
    have HAT:Hid (Mx ms 0=(Eb m&&decide (Cm (Av m) R<=1))):=HA0.out m HX
    cases hmk:Eb m with
    |false =>
     have HC:Hid (Hk ms=false):=HF.out 0 (by rw[HAT.out,hmk];rfl) hlt;clear hmk
     go_wp2
     go_ret;exact⟨Ab HC.out.symm,HB2⟩
    | true =>
     rw[hmk,Bool.true_and]at HAT;clear hmk;go_wp2_with fail;refine(Tg m _ HZ).mono ?_;rintro e w3⟨rfl,hb3⟩;have HB3:=qTH HB2 hb3;have HO3:=iH (Ag HO2 hb3 HO2.out.lt);have HAC:Hid ((Fy R).atKey (kOf (Av m)) (.lit (.int .i64 0))=.lit (.int .i64 ((Cm (Av m) R:Nat):Int))):=HCN.out _;clear hb3 HB2 HO2 HI2;generalize Av m=nm at *;generalize Ff m=vl at *;generalize decide (Cd m<0)=bb at *;generalize Cm nm R=c0 at *;by_cases hc:c0<=1
     .have HN:Hid (Oo ms (0+1)=true):=Zf ht.out (by rw[HAT.out];exact decide_eq_true hc)
      clear HAT ht;go_wp2_with(at_lookup;refine wpList_lookup_own_int _ rfl _ _ 218 rfl 9 3 .i64 El underlying218 underlying3 (Ga _) mb _ _ rfl HO3 _ _ rfl hkn ?_;intro c hcc _;obtain rfl:=Ef (hcc.symm.trans HAC));go_roundw
      case rel=>exact⟨0+1,by omega,by go_num,HN,HO3,HB3⟩
      simp[intOf];omega
     have HC:Hid (Hk ms=false):=HF.out 0 (by rw[HAT.out];simp[hc]) hlt;clear HAT ht;go_wp2_with(at_lookup;refine wpList_lookup_own_int _ rfl _ _ 218 rfl 9 3 .i64 El underlying218 underlying3 (Ga _) mb _ _ rfl HO3 _ _ rfl hkn ?_;intro c hcc _;obtain rfl:=Ef (hcc.symm.trans HAC));go_ret;exact⟨Ab HC.out.symm,HB3⟩
   | succ j =>
    obtain⟨t,htt⟩:∃t,ms[j]?=some t:=⟨ms[j],gE (by omega)⟩;have HAT:Hid (Mx ms (j+1)=(Eb m&&Op.bytesLess t.toList m.toList&&decide (Cm (Av m) R<=1))):=HAJ.out j m t HX htt;obtain⟨b',o',hbo,_,_,hc'⟩:=HI2.out.at htt;cases hbo
    obtain⟨q1,z1⟩:=hc';simp only[Nat.mul_one,Nat.add_zero]at q1;have hjl:j<ms.length:=by omega
    clear htt z1
    cases hmk:Eb m with
    |false =>
     have HC:Hid (Hk ms=false):=HF.out (j+1) (by rw[HAT.out,hmk];rfl) hlt;clear hmk
     go_wp2
     go_ret;exact⟨Ab HC.out.symm,HB2⟩
    | true =>
     rw[hmk,Bool.true_and]at HAT;clear hmk
     cases hless:Op.bytesLess t.toList m.toList with
     |false =>
      have HC:Hid (Hk ms=false):=HF.out (j+1) (by rw[HAT.out,hless];rfl) hlt
      go_wp2
      go_ret;exact⟨Ab HC.out.symm,HB2⟩
     | true =>
      rw[hless,Bool.true_and]at HAT;go_wp2_with fail;refine(Tg m _ HZ).mono ?_;rintro e w3⟨rfl,hb3⟩;have HB3:=qTH HB2 hb3;have HO3:=iH (Ag HO2 hb3 HO2.out.lt);have HAC:Hid ((Fy R).atKey (kOf (Av m)) (.lit (.int .i64 0))=.lit (.int .i64 ((Cm (Av m) R:Nat):Int))):=HCN.out _;clear hb3 HB2 HO2 HI2;generalize Av m=nm at *;generalize Ff m=vl at *;generalize decide (Cd m<0)=bb at *;generalize Cm nm R=c0 at *;by_cases hc:c0<=1
      .have HN:Hid (Oo ms ((j+1)+1)=true):=Zf ht.out (by rw[HAT.out];exact decide_eq_true hc)
       clear HAT ht;go_wp2_with(at_lookup;refine wpList_lookup_own_int _ rfl _ _ 218 rfl 9 3 .i64 El underlying218 underlying3 (Ga _) mb _ _ rfl HO3 _ _ rfl hkn ?_;intro c hcc _;obtain rfl:=Ef (hcc.symm.trans HAC));go_roundw
       case rel=>exact⟨(j+1)+1,by omega,by go_num,HN,HO3,HB3⟩
       simp[intOf];omega
      have HC:Hid (Hk ms=false):=HF.out (j+1) (by rw[HAT.out];simp[hc]) hlt;clear HAT ht;go_wp2_with(at_lookup;refine wpList_lookup_own_int _ rfl _ _ 218 rfl 9 3 .i64 El underlying218 underlying3 (Ga _) mb _ _ rfl HO3 _ _ rfl hkn ?_;intro c hcc _;obtain rfl:=Ef (hcc.symm.trans HAC));go_ret;exact⟨Ab HC.out.symm,HB3⟩
  have hke:k=ms.length:=by omega
  subst hke;have HC:Hid (Hk ms=true):=by show _=_;rw[HM.out];exact ht.out
  clear ht
  go_wp2
  go_ret;exact⟨Ab HC.out.symm,hb.out⟩
 have HM:Hid (Hk ms=false):=by show _=_;simp[Hk,h10]
 go_enter func130,ntmps130
 go_wp2
 go_ret;exact⟨Ab HM.out.symm,by go_grown⟩
def Jb(cs:List Cpy)(b:Brt):Bool :=
 decide ((Bd cs b.name (-1) cs.length).1<=10)&&decide ((Bd cs b.name (-1) cs.length).2.1<=b.room)&&decide ((Bd cs b.name (-1) cs.length).2.2<=b.hold)
def De(bs:List Brt)(cs:List Cpy):Bool:=bs.all (Jb cs)
theorem qY(p:Nat)(x:Flt)(a1:OA)(c1:Nat)(a2:OA)(c2:Nat)(a3:OA)(c3:Nat)(lo:Nat)(w:World)(hp:FndIn p x a1 c1 a2 c2 a3 c3 w)(n1:sB lo w a1 x.berths)(n3:sC lo w a3 x.copies)(l1:x.berths.length<=1048576)(l3:x.copies.length<=1048576) :
  Calls prog 99 #[pP p 0] w (Rt (.bool (De x.berths x.copies)) w):=by
 have N1:=iH n1;have N3:=iH n3;have HP:=iH hp;have hpl:p<w.heap.size:=block_lt_of_cell hp.1;obtain⟨p1,_,_⟩:=hp;clear n1 n3;go_enter func99,ntmps99;go_wp2_with fail;clear p1;go_loopw [12] (λi wr=>∃k:Nat,k<=x.berths.length/\i=X k/\Hid (∀j y,j<k->x.berths[j]?=some y->Jb x.copies y=true)/\bW w wr) (λi _=>x.berths.length-(intOf i).toNat)
 case atStart=>exact⟨0,zL,rfl,λj y h=>absurd h (Nat.not_lt_zero _),by go_grown⟩
 obtain⟨k,hk,rfl,ho,hbel⟩:=hrel;by_cases hlt:k<x.berths.length
 .obtain⟨y,hy⟩:=gXe hlt
  obtain⟨b,o,rfl,_,_,hc⟩:=(N1.out.below BrtC.holds hbel nL).at hy;obtain⟨m2,d2,q0,q1,q2,q3,q4,q5,_,_,_⟩:=hc;simp only[Nat.add_zero]at q0 q1 q2 q3 q4 q5;have HRA:Hid (wr.rangeAt b (o+k*6) (bbL y m2 d2)):=Aa q0 (Aa q1 (Aa q2 (Aa q3 (Aa q4 (Aa q5 (Am _ _ _))))));have HX:=iH hy;have HB:=iH hbel;clear hy hbel q0 q1 q2 q3 q4 q5;go_upto_region 4 with(first|(refine qLr Ki HRA ?_));have HG:=qRa wr (bbA y m2 d2) 92 (bbL y m2 d2);have HB4:Hid (bW w (wr.alloc (Obj.cells (bbA y m2 d2) 92))):=HB.out.alloc HB.out.size _;have HS4:Hid (wr.heap.size<(wr.alloc (Obj.cells (bbA y m2 d2) 92)).heap.size):=by show _<_;simp
  clear HB HRA;generalize wr.alloc (Obj.cells (bbA y m2 d2) 92)=w4 at *;have e0:w4.cell? (E wr.heap.size 0)=some (Y y.name):=HG.out 0 _ rfl;have HP4:Hid (FndIn p x (O b o) c1 a2 c2 a3 c3 w4):=HP.out.below HB4 hpl;go_wp2_with fail;refine(dW p x.copies a3 c3 lo _ _ _ HP4.out.2.2 (N3.out.below CpyC.holds HB4 nL) l3).mono ?_;rintro e w5⟨rfl,hb5⟩;have HB5:=qTH HB4 hb5;have HG5:=iH (Ac HG hb5 HS4);have HS5:Hid (wr.heap.size<w5.heap.size):=lL HS4 hb5.size;clear hb5 e0 HB4 HG HS4 HP4;have HSA:Hid (Jb x.copies y=(decide ((Bd x.copies y.name (-1) x.copies.length).1<=10)&&decide ((Bd x.copies y.name (-1) x.copies.length).2.1<=y.room)&&decide ((Bd x.copies y.name (-1) x.copies.length).2.2<=y.hold))):=rfl;generalize Bd x.copies y.name (-1) x.copies.length=U at *;go_upto_region 5 with fail;have f0:(w5.alloc (Obj.cells #[X U.1,X U.2.1,X U.2.2] 187)).cell? (E w5.heap.size 0)=some (X U.1):=by simp
  have f1:(w5.alloc (Obj.cells #[X U.1,X U.2.1,X U.2.2] 187)).cell? (E w5.heap.size 1)=some (X U.2.1):=by simp
  have f2:(w5.alloc (Obj.cells #[X U.1,X U.2.1,X U.2.2] 187)).cell? (E w5.heap.size 2)=some (X U.2.2):=by simp
  have hal:=(Below.refl _ w5).alloc nL (Obj.cells #[X U.1,X U.2.1,X U.2.2] 187);have e3:(w5.alloc (Obj.cells #[X U.1,X U.2.1,X U.2.2] 187)).cell? (E wr.heap.size 3)=some (X y.room):=Ac HG5 hal HS5 3 _ rfl;have e4:(w5.alloc (Obj.cells #[X U.1,X U.2.1,X U.2.2] 187)).cell? (E wr.heap.size 4)=some (X y.hold):=Ac HG5 hal HS5 4 _ rfl;have HB6:=qTH HB5 hal;clear hal HB5 HG5 HS5;generalize w5.alloc (Obj.cells #[X U.1,X U.2.1,X U.2.2] 187)=w6 at *;have bad:Hid (Jb x.copies y=false->De x.berths x.copies=false):=λh=>List.all_eq_false.mpr ⟨y,List.mem_of_getElem? HX,by simp[h]⟩
  by_cases h1:U.1<=10
  .by_cases h2:U.2.1<=y.room
   .by_cases h3:U.2.2<=y.hold
    .have HO:Hid (∀j z,j<k+1->x.berths[j]?=some z->Jb x.copies z=true):=by
      intro j z hj hz;by_cases e:j=k
      .subst e
       rw[HX.out]at hz;cases hz
       rw[HSA.out];simp[h1,h2,h3]
      exact ho.out j z (by omega) hz
     clear ho bad HSA
     go_wp2
     go_roundw
     case rel=>exact⟨k+1,by omega,by go_num,HO,HB6⟩
     simp[intOf];omega
    have HC:Hid (De x.berths x.copies=false):=bad.out (by rw[HSA.out];simp[h3]);clear ho bad HSA
    go_wp2
    go_ret;exact⟨Ab HC.out.symm,HB6⟩
   have HC:Hid (De x.berths x.copies=false):=bad.out (by rw[HSA.out];simp[h2]);clear ho bad HSA
   go_wp2
   go_ret;exact⟨Ab HC.out.symm,HB6⟩
  have HC:Hid (De x.berths x.copies=false):=bad.out (by rw[HSA.out];simp[h1]);clear ho bad HSA
  go_wp2
  go_ret;exact⟨Ab HC.out.symm,HB6⟩
 have hke:k=x.berths.length:=by omega
 subst hke;have HC:Hid (De x.berths x.copies=true):=by
  show _=_
  simp only[De,List.all_eq_true];intro y hy;obtain⟨j,hj,e⟩:=List.mem_iff_getElem.mp hy;exact ho.out j y hj (by rw[gE hj,e])
 clear ho
 go_wp2
 go_ret;exact⟨Ab HC.out.symm,hbel⟩
def Gk(b:Brt):Bool:=P.nameOk b.zone&&inR b.room 0 1000&&inR b.hold 0 1000&&Hk b.marks
def Cc(bs:List Brt):Bool:=bs.all Gk
theorem jA(p:Nat)(xs:List Brt)(a:OA)(cap lo:Nat)(w:World)(hp:w.cell? (E p 1)=some (.slice a xs.length cap))(n1:sB lo w a xs) :
  Calls prog 96 #[pP p 0] w (Rt (.bool (Cc xs)) w):=by
 have hlen:=n1.1;unfold maxLen at hlen;have N1:=iH n1;clear n1;go_enter func96,ntmps96;go_wp2_with fail;clear hp;go_loopw [11] (λi wr=>∃k:Nat,k<=xs.length/\i=X k/\Hid (∀j y,j<k->xs[j]?=some y->Gk y=true)/\bW w wr) (λi _=>xs.length-(intOf i).toNat)
 case atStart=>exact⟨0,zL,rfl,λj y h=>absurd h (Nat.not_lt_zero _),by go_grown⟩
 obtain⟨k,hk,rfl,ho,hbel⟩:=hrel;by_cases hlt:k<xs.length
 .obtain⟨y,hy⟩:=gXe hlt
  obtain⟨b,o,rfl,_,_,hc⟩:=(N1.out.below BrtC.holds hbel nL).at hy;obtain⟨m2,d2,q0,q1,q2,q3,q4,q5,_,z1,nm⟩:=hc;simp only[Nat.add_zero]at q0 q1 q2 q3 q4 q5;have HRA:Hid (wr.rangeAt b (o+k*6) (bbL y m2 d2)):=Aa q0 (Aa q1 (Aa q2 (Aa q3 (Aa q4 (Aa q5 (Am _ _ _))))));have HX:=iH hy;have HB:=iH hbel;have HZ:=iH z1;have HM:=iH nm;clear hy hbel q0 q1 q2 q3 q4 q5 z1 nm;go_upto_region 4 with(first|(refine qLr Ki HRA ?_));have HG:=qRa wr (bbA y m2 d2) 92 (bbL y m2 d2);have hal:=(Below.refl _ wr).alloc nL (Obj.cells (bbA y m2 d2) 92);have HB4:Hid (bW w (wr.alloc (Obj.cells (bbA y m2 d2) 92))):=HB.out.alloc HB.out.size _;have HM4:=qSl StrC.holds HM hal;have HS4:Hid (wr.heap.size<(wr.alloc (Obj.cells (bbA y m2 d2) 92)).heap.size):=by show _<_;simp
  clear HB HRA hal HM;generalize wr.alloc (Obj.cells (bbA y m2 d2) 92)=w4 at *;have e1:w4.cell? (E wr.heap.size 1)=some (Y y.zone):=HG.out 1 _ rfl;have HBA:Hid (Gk y=(P.nameOk y.zone&&inR y.room 0 1000&&inR y.hold 0 1000&&Hk y.marks)):=rfl;have bad:Hid (Gk y=false->Cc xs=false):=λh=>List.all_eq_false.mpr ⟨y,List.mem_of_getElem? HX,by simp[h]⟩
  go_wp2_with fail;refine(Ci y.zone _ HZ).mono ?_;rintro e w' ⟨rfl,rfl⟩;clear e1
  cases hz:P.nameOk y.zone with
  |false =>
   have HC:Hid (Cc xs=false):=bad.out (by rw[HBA.out,hz];rfl);clear ho bad HBA hz
   go_wp2
   go_ret;exact⟨Ab HC.out.symm,HB4⟩
  |true =>
  rw[hz,Bool.true_and]at HBA;clear hz;have e3:w'.cell? (E wr.heap.size 3)=some (X y.room):=HG.out 3 _ rfl;go_wp2_with fail;refine(Lm y.room _).mono ?_;rintro e w5⟨rfl,hb5⟩;have HB5:=qTH HB4 hb5;have HG5:=iH (Ac HG hb5 HS4);have HS5:Hid (wr.heap.size<w5.heap.size):=lL HS4 hb5.size;have HM5:=qSl StrC.holds HM4 hb5;clear hb5 e3 HB4 HG HS4 HM4
  cases hr:inR y.room 0 1000 with
  |false =>
   have HC:Hid (Cc xs=false):=bad.out (by rw[HBA.out,hr];rfl);clear ho bad HBA hr
   go_wp2
   go_ret;exact⟨Ab HC.out.symm,HB5⟩
  |true =>
  rw[hr,Bool.true_and]at HBA;clear hr;have e4:w5.cell? (E wr.heap.size 4)=some (X y.hold):=HG5.out 4 _ rfl;go_wp2_with fail;refine(Lm y.hold _).mono ?_;rintro e w6⟨rfl,hb6⟩;have HB6:=qTH HB5 hb6;have HG6:=iH (Ac HG5 hb6 HS5);have HM6:=qSl StrC.holds HM5 hb6;clear hb6 e4 HB5 HG5 HS5 HM5
  cases hh:inR y.hold 0 1000 with
  |false =>
   have HC:Hid (Cc xs=false):=bad.out (by rw[HBA.out,hh];rfl);clear ho bad HBA hh
   go_wp2
   go_ret;exact⟨Ab HC.out.symm,HB6⟩
  |true =>
  rw[hh,Bool.true_and]at HBA;clear hh;have e2:w6.cell? (E wr.heap.size 2)=some (.slice m2 y.marks.length d2):=HG6.out 2 _ rfl;go_wp2_with fail;refine(fG y.marks m2 d2 lo _ HM6).mono ?_;rintro e w7⟨rfl,hb7⟩;have HB7:=qTH HB6 hb7;clear hb7 e2 HB6 HG6 HM6
  cases hm:Hk y.marks with
  |false =>
   have HC:Hid (Cc xs=false):=bad.out (by rw[HBA.out,hm]);clear ho bad HBA hm
   go_wp2
   go_ret;exact⟨Ab HC.out.symm,HB7⟩
  | true =>
   have HO:Hid (∀j z,j<k+1->xs[j]?=some z->Gk z=true):=by
    intro j z hj hz;by_cases e:j=k
    .subst e
     rw[HX.out]at hz;cases hz
     rw[HBA.out,hm]
    exact ho.out j z (by omega) hz
   clear ho bad HBA hm
   go_wp2
   go_roundw
   case rel=>exact⟨k+1,by omega,by go_num,HO,HB7⟩
   simp[intOf];omega
 have hke:k=xs.length:=by omega
 subst hke;have HC:Hid (Cc xs=true):=by
  show _=_
  simp only[Cc,List.all_eq_true];intro y hy;obtain⟨j,hj,e⟩:=List.mem_iff_getElem.mp hy;exact ho.out j y hj (by rw[gE hj,e])
 clear ho
 go_wp2
 go_ret;exact⟨Ab HC.out.symm,hbel⟩
end Go.Proofs.YthboopnmbglkjaaGreat
