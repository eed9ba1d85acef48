import Derived.Test.YtpidfnfilnkhkaaGreatVa3
set_option maxHeartbeats 2000000
set_option maxRecDepth 100000
namespace Go.Proofs.YtpidfnfilnkhkaaGreat
open Go.RowKit Go.WideMaps Go.Maps Tryz
def Ap(cs:List Cpy)(s:BA)(but:Int):Nat->Int×Int×Int
 |0=>(0,0,0)
 |k+1=>match cs[k]? with
  |some c=>if c.at_=s/\(k:Int)≠but then(wrap64 ((Ap cs s but k).1+1),wrap64 ((Ap cs s but k).2.1+c.room),wrap64 ((Ap cs s but k).2.2+c.hold))else Ap cs s but k
  |none=>Ap cs s but k
theorem fV{cs:List Cpy}{s:BA}{but:Int}{k:Nat}{c:Cpy}(hk:cs[k]?=some c)(h1:c.at_=s)(h2:(k:Int)≠but):Ap cs s but (k+1)=(wrap64 ((Ap cs s but k).1+1),wrap64 ((Ap cs s but k).2.1+c.room),wrap64 ((Ap cs s but k).2.2+c.hold)):=by
 conv=>lhs;unfold Ap
 rw[hk];simp[h1,h2]
theorem Xq{cs:List Cpy}{s:BA}{but:Int}{k:Nat}{c:Cpy}(hk:cs[k]?=some c)(h:¬(c.at_=s/\(k:Int)≠but)):Ap cs s but (k+1)=Ap cs s but k:=by
 conv=>lhs;unfold Ap
 rw[hk];simp only[if_neg h]
theorem Bu{a b:BA}(h:¬a=b):(a.toList==b.toList)=false:=by
 rw[ByteArray.toList_eq,ByteArray.toList_eq]
 have:¬a.data.toList=b.data.toList:=λe=>h (by
  cases a with|mk x=>cases b with|mk y=>cases x;cases y;simp at e;simp[e])
 simpa using this
theorem Br{a b:BA}(h:a=b):(a.toList==b.toList)=true:=by subst h;simp
def Gk(bs:List Brt)(s:BA):Int:=match bs.findIdx? (λb=>decide (b.name=s))with
 |some k=>k
 |none=>-1
theorem bB{bs:List Brt}{s:BA}{k:Nat}{b:Brt}(hk:bs[k]?=some b)(h:b.name=s)(ho:∀j b,j<k->bs[j]?=some b->b.name≠s):Gk bs s=k:=by
 have:bs.findIdx? (λb=>decide (b.name=s))=some k:=by
  rw[List.findIdx?_eq_some_iff_getElem];have hlt:=Ac hk;rw[gE hlt]at hk;injection hk with hk;refine⟨hlt,by simp[hk,h],λj hj=>?_⟩;have:=ho j bs[j] hj (gE (by omega));simpa using this
 simp[Gk,this]
theorem Za{bs:List Brt}{s:BA}(ho:∀j b,j<bs.length->bs[j]?=some b->b.name≠s):Gk bs s=-1:=by
 have:bs.findIdx? (λb=>decide (b.name=s))=none:=by
  rw[List.findIdx?_eq_none_iff];intro b hb;obtain⟨j,hj⟩:=List.getElem?_of_mem hb;simpa using ho j b (Ac hj) hj
 simp[Gk,this]
theorem Jd(x:Flt)(a1:OA)(c1:Nat)(a2:OA)(c2:Nat)(a3:OA)(c3:Nat)(lo:Nat)(s:BA)(w:World)(n1:SliceC BrtC 6 lo w a1 x.berths)(hl:x.berths.length<=1048576) :
  Calls prog 17 #[.agg (ffA x a1 c1 a2 c2 a3 c3),.string s] w λe w'=>e=.returned (.int .i64 (Gk x.berths s))/\Below w.heap.size w w':=by
 have HI:Hid (SliceC BrtC 6 lo w a1 x.berths):=n1;clear n1
 try unfold ffA
 generalize hbs:x.berths=bs at *;clear hbs;go_enter func17,ntmps17
 go_wp2
 go_loopw [5] (λi wr=>∃k:Nat,k<=bs.length/\i=.int .i64 k/\wr.cell? ⟨w.heap.size,1,none⟩=some (.slice a1 bs.length c1)/\Hid (∀j b,j<k->bs[j]?=some b->b.name≠s)/\Below w.heap.size w wr) (λi _=>bs.length-(intOf i).toNat)
 case atStart=>exact⟨0,zL,rfl,by simp,λj b h=>by omega,by go_grown⟩
 case round =>
  obtain⟨k,hk,rfl,hcell,ho,hbel⟩:=hrel;by_cases hlt:k<bs.length
  .obtain⟨x,hx⟩:=gXe hlt
   obtain⟨b,o,rfl,_,_,hc⟩:=(HI.out.below BrtC.holds hbel nL).at hx;obtain⟨a9,c9,q0,q1,q2,q3,q4,q5,z0,z1,n9⟩:=hc;simp only[Nat.add_zero]at q0;have HX:Hid (bs[k]?=some x):=hx;clear hx q1 q2 q3 q4 q5 z0 z1 n9;by_cases h:x.name=s
   .have HZ:Hid (Gk bs s=k):=bB HX h ho.out
    have ht:=Br h;clear h
    go_wp2
    go_ret;exact⟨Am HZ.out.symm,hbel⟩
   .have ht:=Bu h
    go_wp2
    go_roundw
    case rel =>
     refine⟨k+1,by omega,by go_num,hcell,?_,hbel⟩;intro j y hj hy;by_cases e:j=k
     .subst e
      rw[HX.out]at hy;cases hy
      exact h
     .exact ho.out j y (by omega) hy
    case measure=>simp[intOf];omega
  .have hke:k=bs.length:=by omega
   have HZ:Hid (Gk bs s=-1):=Za (hke▸ho.out)
   go_wp2
   go_ret;exact⟨Am HZ.out.symm,hbel⟩
theorem Sz:(prog.info? 58).map (·.size)=some 3:=by kernel_rfl
theorem BE:Qo 58 3:=⟨_,underlying58,rfl,Sz⟩
def UseAt(w:World)(g:Nat)(u:Int×Int×Int):Prop :=
 w.rangeAt g 0 [.int .i64 u.1,.int .i64 u.2.1,.int .i64 u.2.2]/\w.there g 0 3
theorem UseAt.below{w w':World}{g B:Nat}{u:Int×Int×Int}(h:UseAt w g u)(hb:Below B w w')(hB:g<B):UseAt w' g u:=by
 refine⟨λj v hj=>?_,λj hj=>?_⟩
 .rw[hb.cell (p:=⟨g,_,none⟩) hB];exact h.1 j v hj
 .rw[hb.cell (p:=⟨g,_,none⟩) hB,hb.frozen (p:=⟨g,_,none⟩) hB];exact h.2 j hj
theorem UseAt.cells{w:World}{g:Nat}{u:Int×Int×Int}(h:UseAt w g u):w.cell? ⟨g,0,none⟩=some (.int .i64 u.1)/\w.cell? ⟨g,1,none⟩=some (.int .i64 u.2.1)/\w.cell? ⟨g,2,none⟩=some (.int .i64 u.2.2) :=
 ⟨h.1 0 _ rfl,h.1 1 _ rfl,h.1 2 _ rfl⟩
theorem UseAt.set{w:World}{g:Nat}{u:Int×Int×Int}(h:UseAt w g u)(v:Int×Int×Int):UseAt (w.setCells g 0 [.int .i64 v.1,.int .i64 v.2.1,.int .i64 v.2.2]) g v :=
 ⟨World.rangeAt_setCells_same _ _ _ _ h.2,World.there_setCells h.2 _ _ _⟩
theorem bS(p:Nat)(cs:List Cpy)(a3:OA)(c3 lo:Nat)(s:BA)(but:Int)(w:World)(hp:w.cell? ⟨p,3,none⟩=some (.slice a3 cs.length c3))(n3:SliceC CpyC 12 lo w a3 cs)(hl:cs.length<=1048576) :
  Calls prog 77 #[.pointer (some ⟨p,0,none⟩),.string s,.int .i64 but] w λe w'=>e=.returned (.agg #[.int .i64 (Ap cs s but cs.length).1,.int .i64 (Ap cs s but cs.length).2.1,.int .i64 (Ap cs s but cs.length).2.2])/\Below w.heap.size w w':=by
 have HI:Hid (SliceC CpyC 12 lo w a3 cs):=n3;have hpl:=block_lt_of_cell hp;clear n3;go_enter func77,ntmps77
 go_wp2
 go_loopw [16] (λi wr=>∃k:Nat,k<=cs.length/\i=.int .i64 k/\w.heap.size+1<wr.heap.size/\Hid (UseAt wr (w.heap.size+1) (Ap cs s but k))/\Hid (wr.there w.heap.size 0 3)/\Below w.heap.size w wr) (λi _=>cs.length-(intOf i).toNat)
 case atStart =>
  refine⟨0,zL,rfl,by simp,⟨?_,?_⟩,?_,by go_grown⟩
  .exact Aa (by simp[Ap]) (Aa (by simp[Ap]) (Aa (by simp[Ap]) (Ao _ _ _)))
  .exact Ag (by simp;rfl) (by simp) (Ag (by simp;rfl) (by simp) (Ag (by simp;rfl) (by simp) (Ez _ _ _)))
  .exact Ag (by simp;rfl) (by simp) (Ag (by simp;rfl) (by simp) (Ag (by simp;rfl) (by simp) (Ez _ _ _)))
 case round =>
  obtain⟨k,hk,rfl,hsz,hu,ht,hbel⟩:=hrel;by_cases hlt:k<cs.length
  .obtain⟨x,hx⟩:=gXe hlt
   obtain⟨b,o,rfl,_,_,hc⟩:=(HI.out.below CpyC.holds hbel nL).at hx;obtain⟨a7,c7,q0,q1,q2,q3,q4,q5,q6,q7,q8,q9,q10,q11,_,_,_,_,_,_,_⟩:=hc;simp only[Nat.add_zero]at q0 q1 q2 q3 q4 q5 q6 q7 q8 q9 q10 q11;have HRA:Hid (wr.rangeAt b (o+k*12) (ccL x a7 c7)):=Aa q0 (Aa q1 (Aa q2 (Aa q3 (Aa q4 (Aa q5 (Aa q6 (Aa q7 (Aa q8 (Aa q9 (Aa q10 (Aa q11 (Ao _ _ _))))))))))));have HX:Hid (cs[k]?=some x):=hx;have HB:Hid (Below w.heap.size w wr):=hbel;clear hx q0 q1 q2 q3 q4 q5 q6 q7 q8 q9 q10 q11 hbel;go_upto_region 5 with(first|(refine qLr Jg HRA ?_));have hal:=(Below.refl _ wr).alloc nL (Obj.cells (ccA x a7 c7) 49);have e4:(wr.alloc (Obj.cells (ccA x a7 c7) 49)).cell? ⟨wr.heap.size,4,none⟩=some (.int .i64 x.room):=by simp
   have e5:(wr.alloc (Obj.cells (ccA x a7 c7) 49)).cell? ⟨wr.heap.size,5,none⟩=some (.int .i64 x.hold):=by simp
   have e11:(wr.alloc (Obj.cells (ccA x a7 c7) 49)).cell? ⟨wr.heap.size,11,none⟩=some (.string x.at_):=by simp
   have HU4:Hid (UseAt (wr.alloc (Obj.cells (ccA x a7 c7) 49)) (w.heap.size+1) (Ap cs s but k)):=hu.out.below hal (by omega);have HT4:Hid ((wr.alloc (Obj.cells (ccA x a7 c7) 49)).there w.heap.size 0 3):=World.there_alloc ht.out _;have HB4:Hid (Below w.heap.size w (wr.alloc (Obj.cells (ccA x a7 c7) 49))):=HB.out.alloc (by omega) _;have hs4:w.heap.size+1<(wr.alloc (Obj.cells (ccA x a7 c7) 49)).heap.size:=by simp;omega
   clear hal hu ht HB;generalize wr.alloc (Obj.cells (ccA x a7 c7) 49)=w4 at *;obtain⟨u0,u1,u2⟩:=HU4.out.cells;by_cases h:x.at_=s/\(k:Int)≠but
   .have HV:Hid (Ap cs s but (k+1)=_):=fV HX h.1 h.2
    have hte:=Br h.1;have hkb:=h.2;obtain⟨w5,hw5⟩:∃w',w'=w4.setCells (w.heap.size+1) 0 [.int .i64 (wrap64 ((Ap cs s but k).1+1)),.int .i64 (wrap64 ((Ap cs s but k).2.1+x.room)),.int .i64 (wrap64 ((Ap cs s but k).2.2+x.hold))]:=⟨_,rfl⟩;have HW5:Hid (w5=w4.setCells (w.heap.size+1) 0 [.int .i64 (wrap64 ((Ap cs s but k).1+1)),.int .i64 (wrap64 ((Ap cs s but k).2.1+x.room)),.int .i64 (wrap64 ((Ap cs s but k).2.2+x.hold))]):=hw5;have HU5:Hid (UseAt w5 (w.heap.size+1) (Ap cs s but (k+1))):=by rw[hw5,HV.out];exact HU4.out.set (wrap64 ((Ap cs s but k).1+1),wrap64 ((Ap cs s but k).2.1+x.room),wrap64 ((Ap cs s but k).2.2+x.hold))
    have HT5:Hid (w5.there w.heap.size 0 3):=by rw[hw5];exact World.there_setCells HT4 _ _ _
    have HB5:Hid (Below w.heap.size w w5):=by rw[hw5];exact Aj (by omega) _ _ _ HB4
    have hs5:w.heap.size+1<w5.heap.size:=by rw[hw5,Az];exact hs4
    have HTU:Hid (w4.there (w.heap.size+1) 0 3):=HU4.out.2;clear h hw5 HV HU4 HT4 HB4;generalize Ap cs s but k=U at *;go_wp2_with(first|(refine An rfl 58 _ _ rfl (w.heap.size+1) 0 #[.int .i64 (wrap64 (U.1+1)),.int .i64 (wrap64 (U.2.1+x.room)),.int .i64 (wrap64 (U.2.2+x.hold))] rfl rfl HTU Sz (by simp[Value.oneCell']) w5 HW5 ?_));go_roundw
    case rel=>exact⟨k+1,by omega,by go_num,hs5,HU5,HT5,HB5⟩
    case measure=>simp[intOf];omega
   .have HV:Hid (Ap cs s but (k+1)=Ap cs s but k):=Xq HX h
    by_cases h1:x.at_=s
    .have hte:=Br h1
     have hkb:(k:Int)=but:=by
      by_cases e:(k:Int)=but
      .exact e
      .exact absurd ⟨h1,e⟩ h
     clear h h1
     go_wp2
     go_roundw
     case rel=>exact⟨k+1,by omega,by go_num,hs4,by rw[HV.out];exact HU4,HT4,HB4⟩
     case measure=>simp[intOf];omega
    .have hte:=Bu h1
     clear h
     go_wp2
     go_roundw
     case rel=>exact⟨k+1,by omega,by go_num,hs4,by rw[HV.out];exact HU4,HT4,HB4⟩
     case measure=>simp[intOf];omega
  .have hke:k=cs.length:=by omega
   subst hke;generalize hU:Ap cs s but cs.length=U at *;have HUU:Hid (Ap cs s but cs.length=U):=hU;clear hU;have HRU:Hid (wr.rangeAt (w.heap.size+1) 0 [.int .i64 U.1,.int .i64 U.2.1,.int .i64 U.2.2]):=hu.out.1;obtain⟨w5,hw5⟩:∃w',w'=wr.setCells w.heap.size 0 [.int .i64 U.1,.int .i64 U.2.1,.int .i64 U.2.2]:=⟨_,rfl⟩;have HW5:Hid (w5=wr.setCells w.heap.size 0 [.int .i64 U.1,.int .i64 U.2.1,.int .i64 U.2.2]):=hw5;have HR5:Hid (w5.rangeAt w.heap.size 0 [.int .i64 U.1,.int .i64 U.2.1,.int .i64 U.2.2]):=by rw[hw5];exact World.rangeAt_setCells_same _ _ _ _ ht.out
   have HB5:Hid (Below w.heap.size w w5):=by rw[hw5];exact Aj nL _ _ _ hbel
   clear hw5 hbel;go_wp2_with(first|(refine qLr BE HRU ?_)|(refine An rfl 58 _ _ rfl w.heap.size 0 #[.int .i64 U.1,.int .i64 U.2.1,.int .i64 U.2.2] rfl rfl ht.out Sz (by simp[Value.oneCell']) w5 HW5 ?_));exact bodyPost_ret (Bi rfl _ _ w.heap.size [.int .i64 U.1,.int .i64 U.2.1,.int .i64 U.2.2] _ rfl HR5 underlying58 rfl Sz) rfl ⟨by rw[HUU.out],HB5⟩
def FndIn(p:Nat)(x:Flt)(a1:OA)(c1:Nat)(a2:OA)(c2:Nat)(a3:OA)(c3:Nat)(w:World):Prop :=
 w.cell? ⟨p,1,none⟩=some (.slice a1 x.berths.length c1)/\w.cell? ⟨p,2,none⟩=some (.slice a2 x.services.length c2)/\w.cell? ⟨p,3,none⟩=some (.slice a3 x.copies.length c3)
theorem FndIn.below{p:Nat}{x:Flt}{a1:OA}{c1:Nat}{a2:OA}{c2:Nat}{a3:OA}{c3:Nat}{w w':World}{B:Nat}(h:FndIn p x a1 c1 a2 c2 a3 c3 w)(hb:Below B w w')(hB:p<B):FndIn p x a1 c1 a2 c2 a3 c3 w' :=
 ⟨(hb.cell (p:=⟨p,1,none⟩) hB).trans h.1,(hb.cell (p:=⟨p,2,none⟩) hB).trans h.2.1,(hb.cell (p:=⟨p,3,none⟩) hB).trans h.2.2⟩
def Dm(x:Flt):Bool:=decide (x.berths.length<=12)&&decide (x.services.length<=30)&&decide (x.copies.length<=60)
theorem wR(p:Nat)(x:Flt)(a1:OA)(c1:Nat)(a2:OA)(c2:Nat)(a3:OA)(c3:Nat)(w:World)(hp:FndIn p x a1 c1 a2 c2 a3 c3 w) :
  Calls prog 105 #[.pointer (some ⟨p,0,none⟩)] w (Rt (.bool (Dm x)) w):=by
 obtain⟨p1,p2,p3⟩:=hp;by_cases h1:x.berths.length<=12
 .by_cases h2:x.services.length<=30
  .by_cases h3:x.copies.length<=60
   .have HC:Hid (Dm x=true):=by show _=_;simp[Dm,h1,h2,h3]
    go_enter func105,ntmps105
    go_wp2
    go_ret;exact⟨Ab (by rw[HC.out];exact decide_eq_true (by omega)),by go_grown⟩
   .have HC:Hid (Dm x=false):=by show _=_;simp[Dm,h3]
    go_enter func105,ntmps105
    go_wp2
    go_ret;exact⟨Ab (by rw[HC.out];exact decide_eq_false (by omega)),by go_grown⟩
  .have HC:Hid (Dm x=false):=by show _=_;simp[Dm,h2]
   go_enter func105,ntmps105
   go_wp2
   go_ret;exact⟨Ab HC.out.symm,by go_grown⟩
 .have HC:Hid (Dm x=false):=by show _=_;simp[Dm,h1]
  go_enter func105,ntmps105
  go_wp2
  go_ret;exact⟨Ab HC.out.symm,by go_grown⟩
def Eu(x:Flt):Bool:=Cm (x.berths.map (·.name)) x.berths.length&&Cm (x.services.map (·.name)) x.services.length&&Cm (x.copies.map (·.name)) x.copies.length
theorem vO(p:Nat)(x:Flt)(a1:OA)(c1:Nat)(a2:OA)(c2:Nat)(a3:OA)(c3:Nat)(lo:Nat)(w:World)(hp:FndIn p x a1 c1 a2 c2 a3 c3 w)(n1:SliceC BrtC 6 lo w a1 x.berths)(n2:SliceC SvcC 2 lo w a2 x.services)(n3:SliceC CpyC 12 lo w a3 x.copies)(l1:x.berths.length<=1048576)(l2:x.services.length<=1048576)(l3:x.copies.length<=1048576) :
  Calls prog 106 #[.pointer (some ⟨p,0,none⟩)] w (Rt (.bool (Eu x)) w):=by
 have N1:=iH n1;have N2:=iH n2;have N3:=iH n3;have HP:=iH hp;have hpl:p<w.heap.size:=block_lt_of_cell hp.1;obtain⟨p1,_,_⟩:=hp;clear n1 n2 n3;go_enter func106,ntmps106;go_wp2_with fail;refine(kP x.berths a1 c1 lo _ N1 l1).mono ?_;rintro e w1⟨rfl,hb1⟩;have HP1:Hid (FndIn p x a1 c1 a2 c2 a3 c3 w1):=HP.out.below hb1 hpl;have HB1:=iH hb1;clear hb1 p1;cases h1:Cm (x.berths.map (·.name)) x.berths.length
 .have HC:Hid (Eu x=false):=by show _=_;simp only[Eu,h1,Bool.false_and]
  clear h1
  go_wp2
  go_ret;exact⟨Ab HC.out.symm,HB1⟩
 have H1:=iH h1;clear h1;obtain⟨_,p2,_⟩:=HP1.out;go_wp2_with fail;refine(iB x.services a2 c2 lo _ (N2.out.below SvcC.holds HB1 nL) l2).mono ?_;rintro e w2⟨rfl,hb2⟩;have HP2:Hid (FndIn p x a1 c1 a2 c2 a3 c3 w2):=HP1.out.below hb2 (lL hpl HB1.out.size);have HB2:=qTH HB1 hb2;clear hb2 p2;cases h2:Cm (x.services.map (·.name)) x.services.length
 .have HC:Hid (Eu x=false):=by show _=_;simp only[Eu,h2,Bool.false_and,Bool.and_false]
  clear h2
  go_wp2
  go_ret;exact⟨Ab HC.out.symm,HB2⟩
 have H2:=iH h2;clear h2;obtain⟨_,_,p3⟩:=HP2.out;go_wp2_with fail;refine(gX x.copies a3 c3 lo _ (N3.out.below CpyC.holds HB2 nL) l3).mono ?_;rintro e w3⟨rfl,hb3⟩;have HB3:=qTH HB2 hb3;have HC:Hid (Eu x=Cm (x.copies.map (·.name)) x.copies.length):=by show _=_;simp only[Eu,H1.out,H2.out,Bool.true_and]
 clear hb3 p3
 go_wp2
 go_ret;exact⟨Ab HC.out.symm,HB3⟩
def Fe(xs:List Svc):Bool:=xs.all λs=>inR s.spare 0 60
theorem tY(p:Nat)(xs:List Svc)(a:OA)(cap lo:Nat)(w:World)(hp:w.cell? ⟨p,2,none⟩=some (.slice a xs.length cap))(hin:SliceC SvcC 2 lo w a xs) :
  Calls prog 108 #[.pointer (some ⟨p,0,none⟩)] w (Rt (.bool (Fe xs)) w):=by
 have hlen:=hin.1;unfold maxLen at hlen;have HI:=iH hin;clear hin;go_enter func108,ntmps108
 go_wp2
 go_loopw [11] (λi wr=>∃k:Nat,k<=xs.length/\i=.int .i64 k/\Hid (∀j x,j<k->xs[j]?=some x->inR x.spare 0 60=true)/\Below w.heap.size w wr) (λi _=>xs.length-(intOf i).toNat)
 case atStart=>exact⟨0,zL,rfl,λj x h=>absurd h (Nat.not_lt_zero _),by go_grown⟩
 case round =>
  obtain⟨k,hk,rfl,ho,hbel⟩:=hrel;by_cases hlt:k<xs.length
  .obtain⟨x,hx⟩:=gXe hlt
   obtain⟨b,o,rfl,_,_,hc⟩:=(HI.out.below SvcC.holds hbel nL).at hx;obtain⟨q0,q1,_⟩:=hc;simp only[Nat.add_zero]at q0 q1;have HX:=iH hx;have HB:=iH hbel;have HSZ:Hid (w.heap.size<=wr.heap.size):=hbel.size;clear hx hbel;go_wp2_with fail;refine(Kb _ _ _ _).mono ?_;rintro e w6⟨rfl,hb6⟩;have HB6:Hid (Below w.heap.size w w6):=(HB.out.alloc HSZ _).trans (hb6.mono (HB.out.alloc HSZ _).size);clear hb6 HB HSZ q0 q1;cases hi:inR x.spare 0 60
   .have HC:Hid (Fe xs=false):=by
     show _=_
     exact List.all_eq_false.mpr ⟨x,List.mem_of_getElem? HX,by simp[hi]⟩
    clear hi
    go_wp2
    go_ret;exact⟨Ab HC.out.symm,HB6⟩
   .have HO:Hid (∀j y,j<k+1->xs[j]?=some y->inR y.spare 0 60=true):=by
     intro j y hj hy;by_cases e:j=k
     .subst e
      rw[HX.out]at hy;cases hy
      exact hi
     .exact ho.out j y (by omega) hy
    clear hi ho
    go_wp2
    go_roundw
    case rel=>exact⟨k+1,by omega,by go_num,HO,HB6⟩
    case measure=>simp[intOf];omega
  .have hke:k=xs.length:=by omega
   subst hke;have HC:Hid (Fe xs=true):=by
    show _=_
    simp only[Fe,List.all_eq_true];intro x hx;obtain⟨j,hj,e⟩:=List.mem_iff_getElem.mp hx;exact ho.out j x hj (by rw[gE hj,e])
   clear ho
   go_wp2
   go_ret;exact⟨Ab HC.out.symm,hbel⟩
def Ol(ms:List BA):Nat->Bool
 |0=>match ms[0]? with
  |none=>true
  |some m=>Ec m&&decide (Ck (Ar m) (Cy ms ms.length)<=1)
 |j+1=>match ms[j+1]?,ms[j]? with
  |some m,some t=>Ec m&&Op.bytesLess t.toList m.toList&&decide (Ck (Ar m) (Cy ms ms.length)<=1)
  |_,_=>true
def Ok(ms:List BA):Nat->Bool
 |0=>true
 |k+1=>Ok ms k&&Ol ms k
def Ik(ms:List BA):Bool:=decide (ms.length<=10)&&Ok ms ms.length
theorem Wd{ms:List BA}{k:Nat}(h:Ol ms k=false):∀n,k<n->Ok ms n=false
 |0,hn=>absurd hn (Nat.not_lt_zero _)
 |n+1,hn=>by
  by_cases e:k=n
  .subst e;simp only[Ok,h,Bool.and_false]
  .simp only[Ok,Wd h n (by omega),Bool.false_and]
theorem Xt{ms:List BA}{k:Nat}(h:Ok ms k=true)(h':Ol ms k=true):Ok ms (k+1)=true:=by
 simp only[Ok,h,h',Bool.and_self]
theorem jO{ms:List BA}{k:Nat}(h:Ol ms k=false)(hk:k<ms.length):Ik ms=false:=by
 simp only[Ik,Wd h _ hk,Bool.and_false]
theorem dW(ms:List BA)(a:OA)(cap lo:Nat)(w:World)(hin:SliceC StrC 1 lo w a ms) :
  Calls prog 130 #[.slice a ms.length cap] w (Rt (.bool (Ik ms)) w):=by
 have hlen:=hin.1;unfold maxLen at hlen;have HI:=iH hin;clear hin;by_cases h10:ms.length<=10
 ·have HM:Hid (Ik ms=Ok ms ms.length):=by show _=_;simp[Ik,h10]
  have HF:Hid (∀k,Ol ms k=false->k<ms.length->Ik ms=false):=λk h hk=>jO h hk
  go_enter func130,ntmps130;go_wp2_with fail;refine(Sb ms a cap lo _ HI (by omega)).mono ?_;rintro e w1⟨mb,n,rfl,ho1,hb1⟩;have HO1:=iH ho1;have HB1:=iH hb1;clear ho1 hb1;have HCN:Hid (∀t,(Gi (Cy ms ms.length)).atKey (kOf t) (.lit (.int .i64 0))=.lit (.int .i64 ((Ck t (Cy ms ms.length):Nat):Int))):=λt=>Nl t _
  have HA0:Hid (∀m,ms[0]?=some m->Ol ms 0=(Ec m&&decide (Ck (Ar m) (Cy ms ms.length)<=1))):=λm h=>by simp only[Ol,h]
  have HAJ:Hid (∀j m t,ms[j+1]?=some m->ms[j]?=some t->Ol ms (j+1)=(Ec m&&Op.bytesLess t.toList m.toList&&decide (Ck (Ar m) (Cy ms ms.length)<=1))):=λj m t h h'=>by simp only[Ol,h,h']
  have HKL:Hid ((Cy ms ms.length).length<=2*ms.length):=Qu ms _;generalize Cy ms ms.length=R at *
  go_wp2
  go_loopw [16] (λi wr=>∃k:Nat,k<=ms.length/\i=.int .i64 k/\Hid (Ok ms k=true)/\Hid (wr.ownsMap prog 9 (plainElem prog 3) mb n (Gi R))/\Hid (Below w.heap.size w wr)) (λi _=>ms.length-(intOf i).toNat)
  case atStart=>exact⟨0,zL,rfl,rfl,HO1,HB1⟩
  case round =>
   clear HO1 HB1;obtain⟨k,hk,rfl,ht,ho,hb⟩:=hrel;by_cases hlt:k<ms.length
   .obtain⟨m,hm⟩:=gXe hlt
    obtain⟨b,o,rfl,_,_,hc⟩:=(HI.out.below StrC.holds hb.out nL).at hm;obtain⟨q0,z0⟩:=hc;simp only[Nat.mul_one,Nat.add_zero]at q0;have HX:=iH hm;have HZ:=iH z0;clear hm z0;go_wp2_with fail;refine(Vl m _ HZ).mono ?_;rintro e w2⟨rfl,hb2⟩;have HB2:=qTH hb hb2;have HO2:=iH (Af ho.out hb2 ho.out.lt);have HI2:=iH (HI.out.below StrC.holds HB2 nL);clear hb2 hb ho q0;have hkn:keyOf prog 9 (.string (Ar m))=some (kOf (Ar m)):=keyOf_string_mk underlying9 (Lg HZ)
    cases k with
    | zero =>
     have HAT:Hid (Ol ms 0=(Ec m&&decide (Ck (Ar m) R<=1))):=HA0.out m HX
     cases hmk:Ec m with
     |false =>
      have HC:Hid (Ik ms=false):=HF.out 0 (by rw[HAT.out,hmk];rfl) hlt;clear hmk
      go_wp2
      go_ret;exact⟨Ab HC.out.symm,HB2⟩
     | true =>
      rw[hmk,Bool.true_and]at HAT;clear hmk;go_wp2_with fail;refine(Sy m _ HZ).mono ?_;rintro e w3⟨rfl,hb3⟩;have HB3:=qTH HB2 hb3;have HO3:=iH (Af HO2 hb3 HO2.out.lt);have HAC:Hid ((Gi R).atKey (kOf (Ar m)) (.lit (.int .i64 0))=.lit (.int .i64 ((Ck (Ar m) R:Nat):Int))):=HCN.out _;clear hb3 HB2 HO2 HI2;generalize Ar m=nm at *;generalize Fm m=vl at *;generalize decide (Cc m<0)=bb at *;generalize Ck nm R=c0 at *;by_cases hc:c0<=1
      .have HN:Hid (Ok ms (0+1)=true):=Xt ht.out (by rw[HAT.out];exact decide_eq_true hc)
       clear HAT ht;go_wp2_with(at_lookup;refine wpList_lookup_own_int _ rfl _ _ 212 rfl 9 3 .i64 Cp underlying212 underlying3 (Cz _) mb _ _ rfl HO3 _ _ rfl hkn ?_;intro c hcc _;obtain rfl:=Eg (hcc.symm.trans HAC));go_roundw
       case rel=>exact⟨0+1,by omega,by go_num,HN,HO3,HB3⟩
       case measure=>simp[intOf];omega
      .have HC:Hid (Ik ms=false):=HF.out 0 (by rw[HAT.out];simp[hc]) hlt
       clear HAT ht;go_wp2_with(at_lookup;refine wpList_lookup_own_int _ rfl _ _ 212 rfl 9 3 .i64 Cp underlying212 underlying3 (Cz _) mb _ _ rfl HO3 _ _ rfl hkn ?_;intro c hcc _;obtain rfl:=Eg (hcc.symm.trans HAC));go_ret;exact⟨Ab HC.out.symm,HB3⟩
    | succ j =>
     obtain⟨t,htt⟩:∃t,ms[j]?=some t:=⟨ms[j],gE (by omega)⟩;have HAT:Hid (Ol ms (j+1)=(Ec m&&Op.bytesLess t.toList m.toList&&decide (Ck (Ar m) R<=1))):=HAJ.out j m t HX htt;obtain⟨b',o',hbo,_,_,hc'⟩:=HI2.out.at htt;cases hbo
     obtain⟨q1,z1⟩:=hc';simp only[Nat.mul_one,Nat.add_zero]at q1;have hjl:j<ms.length:=by omega
     clear htt z1
     cases hmk:Ec m with
     |false =>
      have HC:Hid (Ik ms=false):=HF.out (j+1) (by rw[HAT.out,hmk];rfl) hlt;clear hmk
      go_wp2
      go_ret;exact⟨Ab HC.out.symm,HB2⟩
     | true =>
      rw[hmk,Bool.true_and]at HAT;clear hmk
      cases hless:Op.bytesLess t.toList m.toList with
      |false =>
       have HC:Hid (Ik ms=false):=HF.out (j+1) (by rw[HAT.out,hless];rfl) hlt
       go_wp2
       go_ret;exact⟨Ab HC.out.symm,HB2⟩
      | true =>
       rw[hless,Bool.true_and]at HAT;go_wp2_with fail;refine(Sy m _ HZ).mono ?_;rintro e w3⟨rfl,hb3⟩;have HB3:=qTH HB2 hb3;have HO3:=iH (Af HO2 hb3 HO2.out.lt);have HAC:Hid ((Gi R).atKey (kOf (Ar m)) (.lit (.int .i64 0))=.lit (.int .i64 ((Ck (Ar m) R:Nat):Int))):=HCN.out _;clear hb3 HB2 HO2 HI2;generalize Ar m=nm at *;generalize Fm m=vl at *;generalize decide (Cc m<0)=bb at *;generalize Ck nm R=c0 at *;by_cases hc:c0<=1
       .have HN:Hid (Ok ms ((j+1)+1)=true):=Xt ht.out (by rw[HAT.out];exact decide_eq_true hc)
        clear HAT ht;go_wp2_with(at_lookup;refine wpList_lookup_own_int _ rfl _ _ 212 rfl 9 3 .i64 Cp underlying212 underlying3 (Cz _) mb _ _ rfl HO3 _ _ rfl hkn ?_;intro c hcc _;obtain rfl:=Eg (hcc.symm.trans HAC));go_roundw
        case rel=>exact⟨(j+1)+1,by omega,by go_num,HN,HO3,HB3⟩
        case measure=>simp[intOf];omega
       .have HC:Hid (Ik ms=false):=HF.out (j+1) (by rw[HAT.out];simp[hc]) hlt
        clear HAT ht;go_wp2_with(at_lookup;refine wpList_lookup_own_int _ rfl _ _ 212 rfl 9 3 .i64 Cp underlying212 underlying3 (Cz _) mb _ _ rfl HO3 _ _ rfl hkn ?_;intro c hcc _;obtain rfl:=Eg (hcc.symm.trans HAC));go_ret;exact⟨Ab HC.out.symm,HB3⟩
   .have hke:k=ms.length:=by omega
    subst hke;have HC:Hid (Ik ms=true):=by show _=_;rw[HM.out];exact ht.out
    clear ht
    go_wp2
    go_ret;exact⟨Ab HC.out.symm,hb.out⟩
 .have HM:Hid (Ik ms=false):=by show _=_;simp[Ik,h10]
  go_enter func130,ntmps130
  go_wp2
  go_ret;exact⟨Ab HM.out.symm,by go_grown⟩
def Hr(cs:List Cpy)(b:Brt):Bool :=
 decide ((Ap cs b.name (-1) cs.length).1<=10)&&decide ((Ap cs b.name (-1) cs.length).2.1<=b.room)&&decide ((Ap cs b.name (-1) cs.length).2.2<=b.hold)
def Dd(bs:List Brt)(cs:List Cpy):Bool:=bs.all (Hr cs)
theorem mQ(p:Nat)(x:Flt)(a1:OA)(c1:Nat)(a2:OA)(c2:Nat)(a3:OA)(c3:Nat)(lo:Nat)(w:World)(hp:FndIn p x a1 c1 a2 c2 a3 c3 w)(n1:SliceC BrtC 6 lo w a1 x.berths)(n3:SliceC CpyC 12 lo w a3 x.copies)(l1:x.berths.length<=1048576)(l3:x.copies.length<=1048576) :
  Calls prog 110 #[.pointer (some ⟨p,0,none⟩)] w (Rt (.bool (Dd x.berths x.copies)) w):=by
 have N1:=iH n1;have N3:=iH n3;have HP:=iH hp;have hpl:p<w.heap.size:=block_lt_of_cell hp.1;obtain⟨p1,_,_⟩:=hp;clear n1 n3;go_enter func110,ntmps110;go_wp2_with fail;clear p1;go_loopw [12] (λi wr=>∃k:Nat,k<=x.berths.length/\i=.int .i64 k/\Hid (∀j y,j<k->x.berths[j]?=some y->Hr x.copies y=true)/\Below w.heap.size w wr) (λi _=>x.berths.length-(intOf i).toNat)
 case atStart=>exact⟨0,zL,rfl,λj y h=>absurd h (Nat.not_lt_zero _),by go_grown⟩
 case round =>
  obtain⟨k,hk,rfl,ho,hbel⟩:=hrel;by_cases hlt:k<x.berths.length
  .obtain⟨y,hy⟩:=gXe hlt
   obtain⟨b,o,rfl,_,_,hc⟩:=(N1.out.below BrtC.holds hbel nL).at hy;obtain⟨m2,d2,q0,q1,q2,q3,q4,q5,_,_,_⟩:=hc;simp only[Nat.add_zero]at q0 q1 q2 q3 q4 q5;have HRA:Hid (wr.rangeAt b (o+k*6) (bbL y m2 d2)):=Aa q0 (Aa q1 (Aa q2 (Aa q3 (Aa q4 (Aa q5 (Ao _ _ _))))));have HX:=iH hy;have HB:=iH hbel;clear hy hbel q0 q1 q2 q3 q4 q5;go_upto_region 4 with(first|(refine qLr Nz HRA ?_));have HG:=qRa wr (bbA y m2 d2) 52 (bbL y m2 d2);have HB4:Hid (Below w.heap.size w (wr.alloc (Obj.cells (bbA y m2 d2) 52))):=HB.out.alloc HB.out.size _;have HS4:Hid (wr.heap.size<(wr.alloc (Obj.cells (bbA y m2 d2) 52)).heap.size):=by show _<_;simp
   clear HB HRA;generalize wr.alloc (Obj.cells (bbA y m2 d2) 52)=w4 at *;have e0:w4.cell? ⟨wr.heap.size,0,none⟩=some (.string y.name):=HG.out 0 _ rfl;have HP4:Hid (FndIn p x (some ⟨b,o,none⟩) c1 a2 c2 a3 c3 w4):=HP.out.below HB4 hpl;go_wp2_with fail;refine(bS p x.copies a3 c3 lo _ _ _ HP4.out.2.2 (N3.out.below CpyC.holds HB4 nL) l3).mono ?_;rintro e w5⟨rfl,hb5⟩;have HB5:=qTH HB4 hb5;have HG5:=iH (Ae HG hb5 HS4);have HS5:Hid (wr.heap.size<w5.heap.size):=lL HS4 hb5.size;clear hb5 e0 HB4 HG HS4 HP4;have HSA:Hid (Hr x.copies y=(decide ((Ap x.copies y.name (-1) x.copies.length).1<=10)&&decide ((Ap x.copies y.name (-1) x.copies.length).2.1<=y.room)&&decide ((Ap x.copies y.name (-1) x.copies.length).2.2<=y.hold))):=rfl;generalize Ap x.copies y.name (-1) x.copies.length=U at *;go_upto_region 5 with fail;have f0:(w5.alloc (Obj.cells #[.int .i64 U.1,.int .i64 U.2.1,.int .i64 U.2.2] 58)).cell? ⟨w5.heap.size,0,none⟩=some (.int .i64 U.1):=by simp
   have f1:(w5.alloc (Obj.cells #[.int .i64 U.1,.int .i64 U.2.1,.int .i64 U.2.2] 58)).cell? ⟨w5.heap.size,1,none⟩=some (.int .i64 U.2.1):=by simp
   have f2:(w5.alloc (Obj.cells #[.int .i64 U.1,.int .i64 U.2.1,.int .i64 U.2.2] 58)).cell? ⟨w5.heap.size,2,none⟩=some (.int .i64 U.2.2):=by simp
   have hal:=(Below.refl _ w5).alloc nL (Obj.cells #[.int .i64 U.1,.int .i64 U.2.1,.int .i64 U.2.2] 58);have e3:(w5.alloc (Obj.cells #[.int .i64 U.1,.int .i64 U.2.1,.int .i64 U.2.2] 58)).cell? ⟨wr.heap.size,3,none⟩=some (.int .i64 y.room):=Ae HG5 hal HS5 3 _ rfl;have e4:(w5.alloc (Obj.cells #[.int .i64 U.1,.int .i64 U.2.1,.int .i64 U.2.2] 58)).cell? ⟨wr.heap.size,4,none⟩=some (.int .i64 y.hold):=Ae HG5 hal HS5 4 _ rfl;have HB6:=qTH HB5 hal;clear hal HB5 HG5 HS5;generalize w5.alloc (Obj.cells #[.int .i64 U.1,.int .i64 U.2.1,.int .i64 U.2.2] 58)=w6 at *;have bad:Hid (Hr x.copies y=false->Dd x.berths x.copies=false):=λh=>List.all_eq_false.mpr ⟨y,List.mem_of_getElem? HX,by simp[h]⟩
   by_cases h1:U.1<=10
   .by_cases h2:U.2.1<=y.room
    .by_cases h3:U.2.2<=y.hold
     .have HO:Hid (∀j z,j<k+1->x.berths[j]?=some z->Hr x.copies z=true):=by
       intro j z hj hz;by_cases e:j=k
       .subst e
        rw[HX.out]at hz;cases hz
        rw[HSA.out];simp[h1,h2,h3]
       .exact ho.out j z (by omega) hz
      clear ho bad HSA
      go_wp2
      go_roundw
      case rel=>exact⟨k+1,by omega,by go_num,HO,HB6⟩
      case measure=>simp[intOf];omega
     .have HC:Hid (Dd x.berths x.copies=false):=bad.out (by rw[HSA.out];simp[h3])
      clear ho bad HSA
      go_wp2
      go_ret;exact⟨Ab HC.out.symm,HB6⟩
    .have HC:Hid (Dd x.berths x.copies=false):=bad.out (by rw[HSA.out];simp[h2])
     clear ho bad HSA
     go_wp2
     go_ret;exact⟨Ab HC.out.symm,HB6⟩
   .have HC:Hid (Dd x.berths x.copies=false):=bad.out (by rw[HSA.out];simp[h1])
    clear ho bad HSA
    go_wp2
    go_ret;exact⟨Ab HC.out.symm,HB6⟩
  .have hke:k=x.berths.length:=by omega
   subst hke;have HC:Hid (Dd x.berths x.copies=true):=by
    show _=_
    simp only[Dd,List.all_eq_true];intro y hy;obtain⟨j,hj,e⟩:=List.mem_iff_getElem.mp hy;exact ho.out j y hj (by rw[gE hj,e])
   clear ho
   go_wp2
   go_ret;exact⟨Ab HC.out.symm,hbel⟩
def Hc(b:Brt):Bool:=P.nameOk b.zone&&inR b.room 0 1000&&inR b.hold 0 1000&&Ik b.marks
def Ca(bs:List Brt):Bool:=bs.all Hc
theorem gU(p:Nat)(xs:List Brt)(a:OA)(cap lo:Nat)(w:World)(hp:w.cell? ⟨p,1,none⟩=some (.slice a xs.length cap))(n1:SliceC BrtC 6 lo w a xs) :
  Calls prog 107 #[.pointer (some ⟨p,0,none⟩)] w (Rt (.bool (Ca xs)) w):=by
 have hlen:=n1.1;unfold maxLen at hlen;have N1:=iH n1;clear n1;go_enter func107,ntmps107;go_wp2_with fail;clear hp;go_loopw [11] (λi wr=>∃k:Nat,k<=xs.length/\i=.int .i64 k/\Hid (∀j y,j<k->xs[j]?=some y->Hc y=true)/\Below w.heap.size w wr) (λi _=>xs.length-(intOf i).toNat)
 case atStart=>exact⟨0,zL,rfl,λj y h=>absurd h (Nat.not_lt_zero _),by go_grown⟩
 case round =>
  obtain⟨k,hk,rfl,ho,hbel⟩:=hrel;by_cases hlt:k<xs.length
  .obtain⟨y,hy⟩:=gXe hlt
   obtain⟨b,o,rfl,_,_,hc⟩:=(N1.out.below BrtC.holds hbel nL).at hy;obtain⟨m2,d2,q0,q1,q2,q3,q4,q5,_,z1,nm⟩:=hc;simp only[Nat.add_zero]at q0 q1 q2 q3 q4 q5;have HRA:Hid (wr.rangeAt b (o+k*6) (bbL y m2 d2)):=Aa q0 (Aa q1 (Aa q2 (Aa q3 (Aa q4 (Aa q5 (Ao _ _ _))))));have HX:=iH hy;have HB:=iH hbel;have HZ:=iH z1;have HM:=iH nm;clear hy hbel q0 q1 q2 q3 q4 q5 z1 nm;go_upto_region 4 with(first|(refine qLr Nz HRA ?_));have HG:=qRa wr (bbA y m2 d2) 52 (bbL y m2 d2);have hal:=(Below.refl _ wr).alloc nL (Obj.cells (bbA y m2 d2) 52);have HB4:Hid (Below w.heap.size w (wr.alloc (Obj.cells (bbA y m2 d2) 52))):=HB.out.alloc HB.out.size _;have HM4:=qSl StrC.holds HM hal;have HS4:Hid (wr.heap.size<(wr.alloc (Obj.cells (bbA y m2 d2) 52)).heap.size):=by show _<_;simp
   clear HB HRA hal HM;generalize wr.alloc (Obj.cells (bbA y m2 d2) 52)=w4 at *;have e1:w4.cell? ⟨wr.heap.size,1,none⟩=some (.string y.zone):=HG.out 1 _ rfl;have HBA:Hid (Hc y=(P.nameOk y.zone&&inR y.room 0 1000&&inR y.hold 0 1000&&Ik y.marks)):=rfl;have bad:Hid (Hc y=false->Ca xs=false):=λh=>List.all_eq_false.mpr ⟨y,List.mem_of_getElem? HX,by simp[h]⟩
   go_wp2_with fail;refine(Ch y.zone _ HZ).mono ?_;rintro e w' ⟨rfl,rfl⟩;clear e1
   cases hz:P.nameOk y.zone with
   |false =>
    have HC:Hid (Ca xs=false):=bad.out (by rw[HBA.out,hz];rfl);clear ho bad HBA hz
    go_wp2
    go_ret;exact⟨Ab HC.out.symm,HB4⟩
   |true =>
   rw[hz,Bool.true_and]at HBA;clear hz;have e3:w'.cell? ⟨wr.heap.size,3,none⟩=some (.int .i64 y.room):=HG.out 3 _ rfl;go_wp2_with fail;refine(Lm y.room _).mono ?_;rintro e w5⟨rfl,hb5⟩;have HB5:=qTH HB4 hb5;have HG5:=iH (Ae HG hb5 HS4);have HS5:Hid (wr.heap.size<w5.heap.size):=lL HS4 hb5.size;have HM5:=qSl StrC.holds HM4 hb5;clear hb5 e3 HB4 HG HS4 HM4
   cases hr:inR y.room 0 1000 with
   |false =>
    have HC:Hid (Ca xs=false):=bad.out (by rw[HBA.out,hr];rfl);clear ho bad HBA hr
    go_wp2
    go_ret;exact⟨Ab HC.out.symm,HB5⟩
   |true =>
   rw[hr,Bool.true_and]at HBA;clear hr;have e4:w5.cell? ⟨wr.heap.size,4,none⟩=some (.int .i64 y.hold):=HG5.out 4 _ rfl;go_wp2_with fail;refine(Lm y.hold _).mono ?_;rintro e w6⟨rfl,hb6⟩;have HB6:=qTH HB5 hb6;have HG6:=iH (Ae HG5 hb6 HS5);have HM6:=qSl StrC.holds HM5 hb6;clear hb6 e4 HB5 HG5 HS5 HM5
   cases hh:inR y.hold 0 1000 with
   |false =>
    have HC:Hid (Ca xs=false):=bad.out (by rw[HBA.out,hh];rfl);clear ho bad HBA hh
    go_wp2
    go_ret;exact⟨Ab HC.out.symm,HB6⟩
   |true =>
   rw[hh,Bool.true_and]at HBA;clear hh;have e2:w6.cell? ⟨wr.heap.size,2,none⟩=some (.slice m2 y.marks.length d2):=HG6.out 2 _ rfl;go_wp2_with fail;refine(dW y.marks m2 d2 lo _ HM6).mono ?_;rintro e w7⟨rfl,hb7⟩;have HB7:=qTH HB6 hb7;clear hb7 e2 HB6 HG6 HM6
   cases hm:Ik y.marks with
   |false =>
    have HC:Hid (Ca xs=false):=bad.out (by rw[HBA.out,hm]);clear ho bad HBA hm
    go_wp2
    go_ret;exact⟨Ab HC.out.symm,HB7⟩
   | true =>
    have HO:Hid (∀j z,j<k+1->xs[j]?=some z->Hc z=true):=by
     intro j z hj hz;by_cases e:j=k
     .subst e
      rw[HX.out]at hz;cases hz
      rw[HBA.out,hm]
     .exact ho.out j z (by omega) hz
    clear ho bad HBA hm
    go_wp2
    go_roundw
    case rel=>exact⟨k+1,by omega,by go_num,HO,HB7⟩
    case measure=>simp[intOf];omega
  .have hke:k=xs.length:=by omega
   subst hke;have HC:Hid (Ca xs=true):=by
    show _=_
    simp only[Ca,List.all_eq_true];intro y hy;obtain⟨j,hj,e⟩:=List.mem_iff_getElem.mp hy;exact ho.out j y hj (by rw[gE hj,e])
   clear ho
   go_wp2
   go_ret;exact⟨Ab HC.out.symm,hbel⟩
end Go.Proofs.YtpidfnfilnkhkaaGreat
