import Derived.Test.YtpidfnfilnkhkaaGreatJ43
import Derived.Test.YtpidfnfilnkhkaaGreatJ42
set_option maxHeartbeats 8000000
set_option maxRecDepth 100000
namespace Go.Proofs.YtpidfnfilnkhkaaGreat
open Go.RowKit Go.WideMaps Go.Maps Tryz
theorem FoundZ.cells{p m1 m2 m3 m4:Nat}{x:Flt}{a1:OA}{c1:Nat}{a2:OA}{c2:Nat}{a3:OA}{c3:Nat}{w:World}(h:FoundZ p m1 m2 m3 m4 x a1 c1 a2 c2 a3 c3 w){g:Nat}{cs:Array Value}{t:TypeId}(hz:Blk g cs t w)(hp:p≠g)(o:Nat)(vs:List Value):FoundZ p m1 m2 m3 m4 x a1 c1 a2 c2 a3 c3 (w.setCells g o vs):=⟨h.1.cells hz hp o vs,λj=>(World.frozen?_setCells g vs o w _).trans (h.2 j)⟩
def tD(x:Flt)(a1:OA)(c1:Nat)(a2:OA)(c2:Nat)(a3:OA)(c3:Nat)(lo:Nat)(cn bn:BA)(W:World)(e:Ending)(w:World):Prop :=
 (e=.returned (.tuple #[.agg Bh,.bool false])/\Ir x cn bn=none) \/
 (∃p m1 m2 m3 m4 ci bi y b a7 c7 am cm,e=.returned (.tuple #[.agg (Ai p ci bi y a7 c7 b am cm (Ap x.copies b.name ci x.copies.length).1 (Ap x.copies b.name ci x.copies.length).2.1 (Ap x.copies b.name ci x.copies.length).2.2),.bool true])/\Au x=true/\x.copies[ci]?=some y/\x.berths[bi]?=some b/\Ir x cn bn=some (ci,bi)/\FoundZ p m1 m2 m3 m4 x a1 c1 a2 c2 a3 c3 w/\W.heap.size<=p/\W.heap.size<=m4/\SliceC LikC 2 lo W a7 y.likes/\SliceC StrC 1 lo W am b.marks)
theorem cM(x:Flt)(a1:OA)(c1:Nat)(a2:OA)(c2:Nat)(a3:OA)(c3:Nat)(lo:Nat)(cn bn:BA)(w:World)(n1:SliceC BrtC 6 lo w a1 x.berths)(n2:SliceC SvcC 2 lo w a2 x.services)(n3:SliceC CpyC 12 lo w a3 x.copies)(l1:x.berths.length<=1048576)(l2:x.services.length<=1048576)(l3:x.copies.length<=1048576)(hcn:cn.size<=maxLen)(hbn:bn.size<=maxLen) :
  Calls prog 23 #[.agg (ffA x a1 c1 a2 c2 a3 c3),.string cn,.string bn] w λe w'=>tD x a1 c1 a2 c2 a3 c3 lo cn bn w e w'/\Below w.heap.size w w':=by
 have N1:=iH n1;have N2:=iH n2;have N3:=iH n3;have hkc:keyOf prog 9 (.string cn)=some (kOf cn):=keyOf_string_mk underlying9 hcn;have hkb:keyOf prog 9 (.string bn)=some (kOf bn):=keyOf_string_mk underlying9 hbn;clear n1 n2 n3 hcn hbn;go_enter func23,ntmps23;go_wp2_with fail;have e2:Blk (w.heap.size+1) Bh 60 ((w.alloc (Obj.cells (ffA x a1 c1 a2 c2 a3 c3) 35)).alloc (Obj.cells Bh 60)):=by
  have h:=Blk.alloc (w.alloc (Obj.cells (ffA x a1 c1 a2 c2 a3 c3) 35)) Bh 60;simpa using h
 have e3:Below w.heap.size w ((w.alloc (Obj.cells (ffA x a1 c1 a2 c2 a3 c3) 35)).alloc (Obj.cells Bh 60)):=((Below.refl _ w).alloc nL _).alloc (by simp) _;have HZ0:=iH e2;have HB0:=iH e3;clear e2 e3;generalize(w.alloc (Obj.cells (ffA x a1 c1 a2 c2 a3 c3) 35)).alloc (Obj.cells Bh 60)=w0 at *;refine(Vt x a1 c1 a2 c2 a3 c3 lo _ (N1.out.below BrtC.holds HB0 nL) (N2.out.below SvcC.holds HB0 nL) (N3.out.below CpyC.holds HB0 nL) l1 l2 l3).mono ?_;rintro e w1⟨v,rfl,hb1,hfd⟩;have HB1:=qTH HB0 hb1;have HZ1:=qBk HZ0 hb1;have HS0:Hid (w.heap.size<=w0.heap.size):=HB0.out.size;have HS2:Hid (w.heap.size+1<w0.heap.size):=HZ0.out.lt;clear hb1 HB0 HZ0;have HT:=iH HZ1.out.there;have HR10:=iH (World.rangeAt_setCells_same w1 (w.heap.size+1) 0 Bh.toList HZ1.out.there);have HB10:Hid (Below w.heap.size w (w1.setCells (w.heap.size+1) 0 Bh.toList)):=Aj (by omega) _ _ _ HB1;obtain⟨w10,HW10⟩:∃w10,Hid (w10=w1.setCells (w.heap.size+1) 0 Bh.toList):=⟨_,rfl⟩;rw[<-HW10.out]at HR10 HB10
 cases hv:Au x with
 |false =>
  have HS:=iH (Uh (cn:=cn) (bn:=bn) hv);clear hfd hv;go_wp2_with(first|(refine An rfl 60 _ _ rfl (w.heap.size+1) 0 Bh rfl rfl HT Bk (by simp[Value.oneCell']) w10 HW10 ?_));exact bodyPost_ret (Jk rfl _ _ (w.heap.size+1) Bh.toList _ rfl HR10 underlying60 rfl Bk) rfl ⟨Or.inl ⟨rfl,HS⟩,HB10⟩
 | true =>
  obtain⟨p,m1,m2,m3,m4,rfl,hp,hm4,hF⟩:=hfd hv;have HF:=iH hF;have HV:=iH hv;have HP:Hid (w.heap.size<=p):=lT HS0 hp;have HP2:Hid (w.heap.size+1<p):=lL HS2 hp;have HM4:Hid (w.heap.size<=m4):=lT HS0 hm4;have O3:=iH HF.out.1.2.2.2.2.1;have O1:=iH HF.out.1.2.2.1;have p4:w1.cell? ⟨p,4,none⟩=some (.map (some m1)):=HF.out.1.1 4 _ rfl;have p6:w1.cell? ⟨p,6,none⟩=some (.map (some m3)):=HF.out.1.1 6 _ rfl;have HC1:Hid (has (Ah (cpN x) x.copies.length) (kOf cn)=(Al (cpN x) cn x.copies.length).isSome):=Gv _ _ _;have HC2:Hid ((Ah (cpN x) x.copies.length).atKey (kOf cn) (.lit (.int .i64 0))=.lit (.int .i64 (((Al (cpN x) cn x.copies.length).getD 0:Nat):Int))):=Ia _ _ _;have HD1:Hid (has (Ah (brN x) x.berths.length) (kOf bn)=(Al (brN x) bn x.berths.length).isSome):=Gv _ _ _;have HD2:Hid ((Ah (brN x) x.berths.length).atKey (kOf bn) (.lit (.int .i64 0))=.lit (.int .i64 (((Al (brN x) bn x.berths.length).getD 0:Nat):Int))):=Ia _ _ _;obtain⟨_,_,_,hcN,_,_⟩:=Aw HV;obtain⟨_,hbN,_,_⟩:=Bb HV;clear hF hfd hv hp hm4;have hc1:=HC1.out;have hc2:=HC2.out;have hb1:=HD1.out;have hb2:=HD2.out;clear HC1 HC2 HD1 HD2;generalize Ah (cpN x) x.copies.length=D3 at *;generalize Ah (brN x) x.berths.length=D1 at *
  cases hci:Al (cpN x) cn x.copies.length with
  |none =>
   have HS:=iH (cP (bn:=bn) hci);rw[hci]at hc1 hc2;simp only[Option.isSome_none,Option.getD_none]at hc1 hc2;clear hci hcN hbN;go_wp2_with(first|(at_lookup;refine wpList_lookup_own_ok_int _ rfl _ _ 64 rfl 9 3 .i64 Cp underlying64 underlying3 (Cz _) m3 _ _ rfl O3 _ _ rfl hkc ?_;intro c hcc _;obtain rfl:=Le (hcc.symm.trans hc2);rw[hc1])|(at_lookup;refine wpList_lookup_own_ok_int _ rfl _ _ 64 rfl 9 3 .i64 Cp underlying64 underlying3 (Cz _) m1 _ _ rfl O1 _ _ rfl hkb ?_;intro c' hcc' _;obtain rfl:=Le (hcc'.symm.trans hb2);rw[hb1])|(refine An rfl 60 _ _ rfl (w.heap.size+1) 0 Bh rfl rfl HT Bk (by simp[Value.oneCell']) w10 HW10 ?_));exact bodyPost_ret (Jk rfl _ _ (w.heap.size+1) Bh.toList _ rfl HR10 underlying60 rfl Bk) rfl ⟨Or.inl ⟨rfl,HS⟩,HB10⟩
  | some ci =>
   obtain⟨_,y,hy,hyn⟩:=Hz hcN hci;clear hyn
   cases hbi:Al (brN x) bn x.berths.length with
   |none =>
    have HS:=iH (eO (cn:=cn) hbi);rw[hci]at hc1 hc2;rw[hbi]at hb1 hb2;simp only[Option.isSome_none,Option.getD_none,Option.isSome_some,Option.getD_some]at hc1 hc2 hb1 hb2;clear hci hbi hcN hbN hy;go_wp2_with(first|(at_lookup;refine wpList_lookup_own_ok_int _ rfl _ _ 64 rfl 9 3 .i64 Cp underlying64 underlying3 (Cz _) m3 _ _ rfl O3 _ _ rfl hkc ?_;intro c hcc _;obtain rfl:=Le (hcc.symm.trans hc2);rw[hc1])|(at_lookup;refine wpList_lookup_own_ok_int _ rfl _ _ 64 rfl 9 3 .i64 Cp underlying64 underlying3 (Cz _) m1 _ _ rfl O1 _ _ rfl hkb ?_;intro c' hcc' _;obtain rfl:=Le (hcc'.symm.trans hb2);rw[hb1])|(refine An rfl 60 _ _ rfl (w.heap.size+1) 0 Bh rfl rfl HT Bk (by simp[Value.oneCell']) w10 HW10 ?_));exact bodyPost_ret (Jk rfl _ _ (w.heap.size+1) Bh.toList _ rfl HR10 underlying60 rfl Bk) rfl ⟨Or.inl ⟨rfl,HS⟩,HB10⟩
   | some bi =>
    obtain⟨_,b,hb,hbn⟩:=Yj hbN hbi;clear hbn;have HS:=iH (cK HV hci hbi);rw[hci]at hc1 hc2;rw[hbi]at hb1 hb2;simp only[Option.isSome_some,Option.getD_some]at hc1 hc2 hb1 hb2;have HY:=iH hy;have HBY:=iH hb;clear hci hbi hcN hbN hy hb HT HR10 HB10 HW10;go_wp2_with(first|(at_lookup;refine wpList_lookup_own_ok_int _ rfl _ _ 64 rfl 9 3 .i64 Cp underlying64 underlying3 (Cz _) m3 _ _ rfl O3 _ _ rfl hkc ?_;intro c hcc _;obtain rfl:=Le (hcc.symm.trans hc2);rw[hc1])|(at_lookup;refine wpList_lookup_own_ok_int _ rfl _ _ 64 rfl 9 3 .i64 Cp underlying64 underlying3 (Cz _) m1 _ _ rfl O1 _ _ rfl hkb ?_;intro c' hcc' _;obtain rfl:=Le (hcc'.symm.trans hb2);rw[hb1]));refine(Uf p x a1 c1 a2 c2 a3 c3 lo ci bi y b _ HF.out.1.ins (N1.out.below BrtC.holds HB1 nL) (N3.out.below CpyC.holds HB1 nL) l3 HY HBY).mono ?_;rintro e w2⟨a7,c7,am,cm,rfl,_,_,⟨cb,co,bb,bo,ea,eb,hs7,hsm⟩,hb2'⟩;have S7:Hid (SliceC LikC 2 lo w a7 y.likes):=by
     obtain⟨b',o',e,_,hl,hc⟩:=N3.out.at HY;rw[ea]at e;cases e
     obtain⟨a7',c7',_,_,_,_,_,_,_,q7,_,_,_,_,_,_,_,_,_,_,n7⟩:=hc;rw[HB1.out.cell (p:=⟨cb,co+ci*12+7,none⟩) hl]at hs7;have hq:=(show w.cell? ⟨cb,co+ci*12+7,none⟩=_ from q7).symm.trans hs7;simp only[Option.some.injEq,Value.slice.injEq]at hq;obtain⟨rfl,_,_⟩:=hq;exact n7
    have SM:Hid (SliceC StrC 1 lo w am b.marks):=by
     obtain⟨b',o',e,_,hl,hc⟩:=N1.out.at HBY;rw[eb]at e;cases e
     obtain⟨am',cm',_,_,r2,_,_,_,_,_,nm⟩:=hc;rw[HB1.out.cell (p:=⟨bb,bo+bi*6+2,none⟩) hl]at hsm;have hq:=(show w.cell? ⟨bb,bo+bi*6+2,none⟩=_ from r2).symm.trans hsm;simp only[Option.some.injEq,Value.slice.injEq]at hq;obtain⟨rfl,_,_⟩:=hq;exact nm
    have HB2:=iH (HB1.out.trans (hb2'.mono HB1.out.size));have HZ2:=iH (HZ1.out.below hb2' HZ1.out.lt);have HF2:=iH (HF.out.below hb2');clear hs7 hsm ea eb hb2' p4 p6 hc1 hc2 hb1 hb2;generalize hU:Ap x.copies b.name ci x.copies.length=V;have HU:=iH hU;clear hU;have HT2:=iH HZ2.out.there;have hR5:=World.rangeAt_setCells_same w2 (w.heap.size+1) 0 (Ai p ci bi y a7 c7 b am cm V.1 V.2.1 V.2.2).toList HZ2.out.there;have hB5:Below w.heap.size w (w2.setCells (w.heap.size+1) 0 (Ai p ci bi y a7 c7 b am cm V.1 V.2.1 V.2.2).toList):=Aj (by omega) _ _ _ HB2;have hF5:=HF2.out.cells HZ2 (by have:=HP2.out;omega) 0 (Ai p ci bi y a7 c7 b am cm V.1 V.2.1 V.2.2).toList;obtain⟨w5,HW5⟩:∃w5,Hid (w5=w2.setCells (w.heap.size+1) 0 (Ai p ci bi y a7 c7 b am cm V.1 V.2.1 V.2.2).toList):=⟨_,rfl⟩;rw[<-HW5.out]at hR5 hB5 hF5;have HR5:=iH hR5;have HB5:=iH hB5;have HF5:=iH hF5;clear hR5 hB5 hF5;go_wp2_with(first|(refine An rfl 60 _ _ rfl (w.heap.size+1) 0 (Ai p ci bi y a7 c7 b am cm V.1 V.2.1 V.2.2) rfl rfl HT2 Bk (by simp[Value.oneCell']) w5 HW5 ?_));refine bodyPost_ret (Jk rfl _ _ (w.heap.size+1) (Ai p ci bi y a7 c7 b am cm V.1 V.2.1 V.2.2).toList _ rfl HR5 underlying60 rfl Bk) rfl ⟨Or.inr ⟨p,m1,m2,m3,m4,ci,bi,y,b,a7,c7,am,cm,?_,HV,HY,HBY,HS,HF5,HP,HM4,S7,SM⟩,HB5⟩;rw[HU.out];rfl
theorem xC(s:BA)(w:World)(hs:s.size<=1048576) :
  Calls prog 59 #[.string s] w (Rt (.string s) w):=by
 go_enter func59,ntmps59;go_wp2_with fail;refine(Any.stringslite_Clone xQ s w (by omega)).mono ?_;rintro e w1⟨rfl,hb⟩
 go_wp2
 go_ret;exact⟨rfl,hb⟩
theorem Qq{base:Nat}{T:TypeId}{n:Nat}{vv:Value}{k:Nat}{ds:List Value}{w:World}(h:w.ownsRow base T n vv k ds):∃d q,vv=.slice d k q:=by
 rcases h.2 with⟨h1,h2⟩|⟨g,cap,cur,h1,_⟩
 .exact⟨none,0,by rw[h1,h2]⟩
 .exact⟨_,cap,h1⟩
def Lv(l:List Cpy)(t:Nat):BA:=((l[t]?).map (·.name)).getD ⟨#[]⟩
theorem Gz{l:List Cpy}{t:Nat}{c:Cpy}(h:l[t]?=some c):Lv l t=c.name:=by simp[Lv,h]
theorem kO{l:List Cpy}{pl:List Nat}{k t:Nat}{c:Cpy}(ht:pl[k]?=some t)(hc:l[t]?=some c):He ((pl.take (k+1)).map (Lv l))=He ((pl.take k).map (Lv l))++[.string c.name]:=by
 rw[List.take_add_one,ht];simp[Gz hc]
theorem fP(p:Nat)(l:List Cpy)(a3:OA)(c3 lo:Nat)(pl:List Nat)(pa:OA)(pc lo2:Nat)(w:World)(hp:w.cell? ⟨p,3,none⟩=some (.slice a3 l.length c3))(n3:SliceC CpyC 12 lo w a3 l)(hnm:∀(k:Nat) c,l[k]?=some c->c.name.size<=1048576)(hps:SliceC IntC 1 lo2 w pa (plI pl))(hin:∀(j t:Nat),pl[j]?=some t->t<l.length)(hsm:pl.length<=1048576) :
  Calls prog 26 #[.pointer (some ⟨p,0,none⟩),.slice pa pl.length pc] w λe w'=>(∃d q,e=.returned (.slice d (pl.map (Lv l)).length q)/\SliceC StrC 1 w.heap.size w' d (pl.map (Lv l)))/\Below w.heap.size w w':=by
 obtain⟨i0,hi,hz0,hz1,hz2⟩:=info_parts Hd;have HP:=iH hp;have hpw:p<w.heap.size:=World.block_lt_of_cell? w _ hp;have N3:=iH n3;have HNM:=iH hnm;have HPS:=iH hps;have HIN:=iH hin;clear hp n3 hnm hps hin;go_enter func26,ntmps26
 go_wp2
 go_loopw [5,10] (λv i wr=>∃(k:Nat)(cs:List Value),k<=pl.length/\i=.int .i64 k/\Hid (cs=He ((pl.take k).map (Lv l)))/\Hid (wr.ownsRow w.heap.size 9 1 v k cs)/\Hid (Below w.heap.size w wr)) (λ_ i _=>pl.length-(intOf i).toNat)
 case atStart=>exact⟨0,[],zL,rfl,rfl,World.ownsRow_nil _ _ _ _,Below.refl _ _⟩
 case round =>
  obtain⟨k,cs,hk,rfl,HC,hO,hB⟩:=hrel;by_cases hlt:k<pl.length
  .obtain⟨t,ht⟩:=gXe hlt
   have htl:=HIN.out k t ht;obtain⟨c,hc⟩:=gXe htl;have hcn:=HNM.out t c hc;obtain⟨b',o',rfl,_,_,hcp⟩:=(HPS.out.below IntC.holds hB.out nL).at (Ro ht);have t0:_=_:=hcp;simp only[Nat.mul_one,Nat.add_zero]at t0;have t1:wr.cell? ⟨p,3,none⟩=some (.slice a3 l.length c3):=(hB.out.cell (p:=⟨p,3,none⟩) hpw).trans HP;obtain⟨b,o,rfl,_,_,hcc⟩:=(N3.out.below CpyC.holds hB.out nL).at hc;obtain⟨a7,c7,q0,q1,q2,q3,q4,q5,q6,q7,q8,q9,q10,q11,_⟩:=hcc;simp only[Nat.add_zero]at q0;have HC2:=iH (kO ht hc);clear hcp q1 q2 q3 q4 q5 q6 q7 q8 q9 q10 q11 ht hc;go_wp2_with fail;refine(xC c.name _ hcn).mono ?_;rintro e wc⟨rfl,hbc⟩;have HBC:=qTH hB hbc;have HOC:=iH (Ak hO.out hbc);have hsz:w.heap.size<=wc.heap.size:=HBC.out.size;clear hbc hO hB t0 t1 q0;go_wp2_with(first|(at_builtin;refine wpList_append_lies _ rfl (.tmp 14) (.tmp 25) 28 rfl w.heap.size 9 i0 _ 1 16 underlying28 hi hz0 hz1 hz2 rfl (by decide) _ k _ rfl (Ak HOC ((Below.refl _ _).alloc nL _)) ⟨wc.heap.size,0,none⟩ 1 1 [.string c.name] rfl rfl (Wx (by simp)) (by intro u hu;rw[List.mem_singleton.1 hu];rfl) (by omega) (by unfold maxLen;omega) (by omega) (by simp;omega) _ rfl ?_;intro g2 cap2 w2 hown hgrow hto hgl));go_roundw
   case rel =>
    have hB1:Below w.heap.size w (wc.alloc (Obj.cells #[Value.string c.name] 9)):=HBC.out.alloc HBC.out.size _;exact⟨k+1,_,by omega,by go_num,by show _=_;rw[HC2.out,<-HC.out],iH hown,hB1.grown hgrow hB1.size (λi hi=>(HOC.out.lt i hi).1)⟩
   case measure=>simp[intOf];omega
  .have hke:k=pl.length:=by omega
   subst hke;have HC3:=HC.out;rw[List.take_length]at HC3;subst HC3;obtain⟨d,q,rfl⟩:=Qq hO.out;have HR:=iH hO.out
   have HL:Hid (SliceC StrC 1 w.heap.size wr d (pl.map (Lv l))):=Px (cap:=q) (by simpa using HR.out) (by simpa using hsm) (by
    intro s hs;obtain⟨t,ht,rfl⟩:=List.mem_map.1 hs;obtain⟨j,hj⟩:=List.getElem?_of_mem ht;have htl:=HIN.out j t hj;rw[Gz (gE htl)];have h9:=HNM.out t _ (gE htl);unfold maxLen
    omega)
   clear HR hO HC
   go_wp2
   go_ret;exact⟨⟨d,q,by rw[List.length_map];rfl,HL⟩,hB.out⟩
section
variable {α β:Type} {V:α->Value->List Value} {sub:α->List β} {C:En β} {m n f:Nat}
def ApN(n f:Nat)(cs:List Value)(len:Nat):Prop :=
 ∀(i j b o k c b' o' k' c':Nat),i<j->j<len->cs[i*n+f]?=some (.slice (some ⟨b,o,none⟩) k c)->cs[j*n+f]?=some (.slice (some ⟨b',o',none⟩) k' c')->0<k->0<k'->b≠b'
structure PAt (V:α->Value->List Value) (sub:α->List β) (C:En β) (m n f base lo N g:Nat) (W w:World) (cs:List Value) (l:List α) (k:Nat):Prop where
 new:∀j x,j<k->l[j]?=some x->∃(ae:OA)(ce:Nat),(∀i u,(V x (.slice ae (sub x).length ce))[i]?=some u->cs[j*n+i]?=some u)/\SliceC C m base w ae (sub x)/\∀b o,ae=some ⟨b,o,none⟩->sub x≠[]->b≠g/\b<N
 old:∀j x,k<=j->l[j]?=some x->∃(ae:OA)(ce:Nat),(∀i u,(V x (.slice ae (sub x).length ce))[i]?=some u->cs[j*n+i]?=some u)/\SliceC C m lo W ae (sub x)
 apart:ApN n f cs k
theorem PAt.below{base lo N N' g:Nat}{W w w':World}{cs:List Value}{l:List α}{k:Nat}(hC:Holds C m)(h:PAt V sub C m n f base lo N g W w cs l k)(hb:Below w.heap.size w w')(hN:N<=N'):PAt V sub C m n f base lo N' g W w' cs l k:=by
 refine⟨λj x hj hx=>?_,h.old,h.apart⟩;obtain⟨ae,ce,q1,q2,q3⟩:=h.new j x hj hx;exact⟨ae,ce,q1,q2.below hC hb nL,λb o e hn=>⟨(q3 b o e hn).1,lL (q3 b o e hn).2 hN⟩⟩
theorem PAt.step{base lo N N' g:Nat}{W w:World}{cs:List Value}{l:List α}{k:Nat}{x:α}{ae:OA}{ce:Nat}(hC:FlatC C m)(hV:∀x s,(V x s).length=n)(hf:∀x s,(V x s)[f]?=some s)(h:PAt V sub C m n f base lo N g W w cs l k)(hx:l[k]?=some x)(hl:cs.length=l.length*n)(hs:SliceC C m base w ae (sub x))(hb:∀b o,ae=some ⟨b,o,none⟩->sub x≠[]->N<=b/\b≠g/\b<N')(hN:N<=N') :
  PAt V sub C m n f base lo N' g W (w.setCells g (k*n) (V x (.slice ae (sub x).length ce))) (Eh cs (k*n) (V x (.slice ae (sub x).length ce))) l (k+1):=by
 have hkl:=Ac hx;have hn:f<n:=by have:=Ac (hf x (.slice none 0 0));rwa [hV]at this
 have hkn:(k+1)*n<=l.length*n:=Nat.mul_le_mul_right n (by omega);rw[Nat.add_mul]at hkn;have out:∀j i,i<n->j≠k->(Eh cs (k*n) (V x (.slice ae (sub x).length ce)))[j*n+i]?=cs[j*n+i]?:=by
  intro j i hi hj;refine Kv _ _ _ _ ?_;rw[hV];rcases Nat.lt_or_ge j k with h1|h1
  .have:(j+1)*n<=k*n:=Nat.mul_le_mul_right n (by omega)
   rw[Nat.add_mul]at this;omega
  .have:(k+1)*n<=j*n:=Nat.mul_le_mul_right n (by omega)
   rw[Nat.add_mul]at this;omega
 have inn:∀i,i<n->(Eh cs (k*n) (V x (.slice ae (sub x).length ce)))[k*n+i]?=(V x (.slice ae (sub x).length ce))[i]?:=by
  intro i hi;exact Ra _ _ _ _ (by rw[hV];omega) (by rw[hV];exact hi)
 refine⟨λj y hj hy=>?_,λj y hj hy=>?_,?_⟩
 .by_cases e:j=k
  .subst e
   rw[hx]at hy;cases hy
   refine⟨ae,ce,λi u hu=>?_,Ce hC hs (Ej _ _ _) (λb o e hne e2=>by cases e2;exact(hb _ o e hne).2.1 rfl),λb o e hne=>⟨(hb b o e hne).2.1,(hb b o e hne).2.2⟩⟩;have hi:i<n:=by have:=Ac hu;rwa [hV]at this
   rw[inn i hi];exact hu
  .obtain⟨ae',ce',q1,q2,q3⟩:=h.new j y (by omega) hy
   refine⟨ae',ce',λi u hu=>?_,Ce hC q2 (Ej _ _ _) (λb o e hne e2=>by cases e2;exact(q3 _ o e hne).1 rfl),λb o e hne=>⟨(q3 b o e hne).1,lL (q3 b o e hne).2 hN⟩⟩;have hi:i<n:=by have:=Ac hu;rwa [hV]at this
   rw[out j i hi e];exact q1 i u hu
 .obtain⟨ae',ce',q1,q2⟩:=h.old j y (by omega) hy
  refine⟨ae',ce',λi u hu=>?_,q2⟩;have hi:i<n:=by have:=Ac hu;rwa [hV]at this
  rw[out j i hi (by omega)];exact q1 i u hu
 .intro i j b o p c b' o' p' c' hij hj hci hcj hp hp'
  rw[out i f hn (by omega)]at hci;by_cases e:j=k
  .subst e
   rw[inn f hn,hf]at hcj;obtain⟨y,hy⟩:∃y,l[i]?=some y:=⟨l[i]'(by omega),gE (by omega)⟩;obtain⟨ae',ce',q1,_,q3⟩:=h.new i y hij hy;have h1:=q1 f _ (hf y _);rw[hci]at h1;cases h1
   cases hcj
   have h2:=(q3 b o rfl (λe=>by rw[e]at hp;cases hp)).2;have h3:=(hb b' o' rfl (λe=>by rw[e]at hp';cases hp')).1;omega
  .rw[out j f hn e]at hcj
   exact h.apart i j b o p c b' o' p' c' hij (by omega) hci hcj hp hp'
def OwnA(V:α->Value->List Value)(sub:α->List β)(C:En β)(m n f:Nat)(T:TypeId)(base:Nat)(w:World)(v:Value)(l:List α):Prop :=
 ∃cs,w.ownsRow base T n v l.length cs/\NAt V sub C m n base v w cs l/\ApN n f cs l.length
theorem OwnA.own{T:TypeId}{base:Nat}{w:World}{v:Value}{l:List α}(h:OwnA V sub C m n f T base w v l):OwnN V sub C m n T base w v l:=by
 obtain⟨cs,h1,h2,_⟩:=h;exact⟨cs,h1,h2⟩
theorem OwnA.nil{T:TypeId}{base:Nat}{w:World}:OwnA V sub C m n f T base w (.slice none 0 0) []:=⟨[],World.ownsRow_nil _ _ _ _,λj x h=>(by cases h),λi j _ _ _ _ _ _ _ _ _ h=>absurd h (Nat.not_lt_zero _)⟩
theorem OwnA.below{T:TypeId}{base:Nat}{w w':World}{v:Value}{l:List α}(hC:Holds C m)(h:OwnA V sub C m n f T base w v l)(hb:Below w.heap.size w w'):OwnA V sub C m n f T base w' v l:=by
 obtain⟨cs,h1,h2,h3⟩:=h;refine⟨cs,Ak h1 hb,λj x hj=>?_,h3⟩;obtain⟨ae,ce,q1,q2,q3⟩:=h2 j x hj;exact⟨ae,ce,q1,q2.below hC hb nL,λb o e hn=>⟨(q3 b o e hn).1,lL (q3 b o e hn).2 hb.size⟩⟩
theorem OwnA.mono{T:TypeId}{base base':Nat}{w:World}{v:Value}{l:List α}(hC:Holds C m)(h:OwnA V sub C m n f T base w v l)(hb:base'<=base):OwnA V sub C m n f T base' w v l:=by
 obtain⟨cs,h1,h2,h3⟩:=h;refine⟨cs,Jv h1 hb,λj x hj=>?_,h3⟩;obtain⟨ae,ce,q1,q2,q3⟩:=h2 j x hj;exact⟨ae,ce,q1,q2.keep hC (Keeps.refl _ _) hb,q3⟩
theorem PAt.done{base lo N g q:Nat}{W w:World}{cs:List Value}{l:List α}{T:TypeId}(h:PAt V sub C m n f base lo N g W w cs l l.length)(hN:N<=w.heap.size)(ho:w.ownsRow base T n (.slice (some ⟨g,0,none⟩) l.length q) l.length cs):OwnA V sub C m n f T base w (.slice (some ⟨g,0,none⟩) l.length q) l:=by
 refine⟨cs,ho,λj x hj=>?_,h.apart⟩;obtain⟨ae,ce,q1,q2,q3⟩:=h.new j x (Ac hj) hj;exact⟨ae,ce,q1,q2,λb o e hn=>⟨λe2=>(q3 b o e hn).1 (by cases e2;rfl),lL (q3 b o e hn).2 hN⟩⟩
theorem fE{lo:Nat}{w:World}{ad:Addr}(hV:∀x s,(V x s).length=n)(hO:∀x a p c,∀u∈V x (.slice a p c),u.oneCell'=true)(l:List α)(h:∀j x,l[j]?=some x->∃(ae:OA) (ce:Nat),(∀i u,(V x (.slice ae (sub x).length ce))[i]?=some u->w.cell? (ad.add (j*n+i))=some u)/\SliceC C m lo w ae (sub x)) :
  ∃cs:List Value,cs.length=l.length*n/\(∀j u,cs[j]?=some u->w.cell? (ad.add j)=some u)/\(∀u∈cs,u.oneCell'=true)/\∀j x,l[j]?=some x->∃(ae:OA)(ce:Nat),(∀i u,(V x (.slice ae (sub x).length ce))[i]?=some u->cs[j*n+i]?=some u)/\SliceC C m lo w ae (sub x):=by
 suffices hk:∀k,k<=l.length->∃cs:List Value,cs.length=k*n/\(∀j u,cs[j]?=some u->w.cell? (ad.add j)=some u)/\(∀u∈cs,u.oneCell'=true)/\∀j x,j<k->l[j]?=some x->∃(ae:OA)(ce:Nat),(∀i u,(V x (.slice ae (sub x).length ce))[i]?=some u->cs[j*n+i]?=some u)/\SliceC C m lo w ae (sub x) by
  obtain⟨cs,h1,h2,h3,h4⟩:=hk l.length nL;exact⟨cs,h1,h2,h3,λj x hj=>h4 j x (Ac hj) hj⟩
 intro k
 induction k with
 |zero=>exact λ_=>⟨[],by simp,λj u hu=>(by cases hu),λu hu=>(by cases hu),λj x hj=>absurd hj (Nat.not_lt_zero _)⟩
 | succ k ih =>
  intro hk;obtain⟨cs,h1,h2,h3,h4⟩:=ih (by omega);obtain⟨x,hx⟩:∃x,l[k]?=some x:=⟨l[k]'(by omega),gE (by omega)⟩;obtain⟨ae,ce,q1,q2⟩:=h k x hx;refine⟨cs++V x (.slice ae (sub x).length ce),by rw[List.length_append,h1,hV,Nat.add_mul];omega,λj u hu=>?_,λu hu=>?_,λj y hj hy=>?_⟩
  .by_cases hlt:j<cs.length
   .rw[List.getElem?_append_left hlt]at hu
    exact h2 j u hu
   .rw[List.getElem?_append_right (by omega)]at hu
    have:=q1 _ u hu
    rwa [show k*n+(j-cs.length)=j by omega]at this
  .rcases List.mem_append.1 hu with hu|hu
   .exact h3 u hu
   .exact hO x ae _ ce u hu
  .by_cases e:j=k
   .subst e
    rw[hx]at hy;cases hy
    refine⟨ae,ce,λi u hu=>?_,q2⟩;rw[List.getElem?_append_right (by omega),h1,Nat.add_sub_cancel_left];exact hu
   .obtain⟨ae',ce',p1,p2⟩:=h4 j y (by omega) hy
    refine⟨ae',ce',λi u hu=>?_,p2⟩;have hi:=Ac (p1 i u hu);rw[List.getElem?_append_left hi];exact p1 i u hu
end
theorem CJ(x:Brt)(s:Value):(vBr x s)[2]?=some s:=rfl
theorem CE(x:Cpy)(s:Value):(vCp x s)[7]?=some s:=rfl
theorem vY(x:Brt)(a:OA)(p c:Nat):∀u∈vBr x (.slice a p c),u.oneCell'=true:=by
 intro u hu;simp only[vBr,List.mem_cons,List.not_mem_nil,or_false]at hu;rcases hu with rfl|rfl|rfl|rfl|rfl|rfl<;>rfl
theorem wV(x:Cpy)(a:OA)(p c:Nat):∀u∈vCp x (.slice a p c),u.oneCell'=true:=by
 intro u hu;simp only[vCp,List.mem_cons,List.not_mem_nil,or_false]at hu;rcases hu with rfl|rfl|rfl|rfl|rfl|rfl|rfl|rfl|rfl|rfl|rfl|rfl<;>rfl
theorem AY{lo:Nat}{w:World}{ad:Addr}{l:List Brt}(h:SliceC BrtC 6 lo w (some ad) l):∃cs:List Value,cs.length=l.length*6/\(∀j u,cs[j]?=some u->w.cell? (ad.add j)=some u)/\(∀u∈cs,u.oneCell'=true)/\∀j x,l[j]?=some x->∃(ae:OA)(ce:Nat),(∀i u,(vBr x (.slice ae x.marks.length ce))[i]?=some u->cs[j*6+i]?=some u)/\SliceC StrC 1 lo w ae x.marks:=by
 refine fE Zu vY l (λj x hj=>?_);obtain⟨b,o,e,_,_,hc⟩:=h.at hj;cases e
 obtain⟨ae,ce,q0,q1,q2,q3,q4,q5,_,_,hs⟩:=hc;refine⟨ae,ce,λi u hu=>?_,hs⟩;have hi:i<6:=Ac hu;rw[Addr.add_mid,<-Nat.add_assoc];rcases(by omega:i=0\/i=1\/i=2\/i=3\/i=4\/i=5)with rfl|rfl|rfl|rfl|rfl|rfl<;>(cases hu;assumption)
theorem tJ{lo:Nat}{w:World}{ad:Addr}{l:List Cpy}(h:SliceC CpyC 12 lo w (some ad) l):∃cs:List Value,cs.length=l.length*12/\(∀j u,cs[j]?=some u->w.cell? (ad.add j)=some u)/\(∀u∈cs,u.oneCell'=true)/\∀j x,l[j]?=some x->∃(ae:OA)(ce:Nat),(∀i u,(vCp x (.slice ae x.likes.length ce))[i]?=some u->cs[j*12+i]?=some u)/\SliceC LikC 2 lo w ae x.likes:=by
 refine fE Nj wV l (λj x hj=>?_);obtain⟨b,o,e,_,_,hc⟩:=h.at hj;cases e
 obtain⟨ae,ce,q0,q1,q2,q3,q4,q5,q6,q7,q8,q9,q10,q11,_,_,_,_,_,_,hs⟩:=hc;refine⟨ae,ce,λi u hu=>?_,hs⟩;have hi:i<12:=Ac hu;rw[Addr.add_mid,<-Nat.add_assoc];rcases(by omega:i=0\/i=1\/i=2\/i=3\/i=4\/i=5\/i=6\/i=7\/i=8\/i=9\/i=10\/i=11)with rfl|rfl|rfl|rfl|rfl|rfl|rfl|rfl|rfl|rfl|rfl|rfl<;>(cases hu;assumption)
end Go.Proofs.YtpidfnfilnkhkaaGreat
namespace Go.Proofs.YtpidfnfilnkhkaaGreat
open Go.RowKit Go.WideMaps Go.Maps Tryz
theorem mH(x:Flt)(y:Cpy)(b:Brt):∀n,((List.range n).filter (onV x y b)).length<=Fk x.copies b.name n
 |0=>Nat.le_refl _
 | n+1=>by
  have ih:=mH x y b n;rw[List.range_succ,List.filter_append,List.length_append,List.filter_cons,List.filter_nil];unfold Fk
  cases hc:x.copies[n]? with
  |none =>
   have h1:onV x y b n=false:=by unfold onV;rw[hc]
   rw[h1];simpa using ih
  | some c =>
   by_cases h2:c.at_=b.name
   .simp only[h2]
    split<;>simp<;>omega
   .have h1:onV x y b n=false:=by unfold onV;rw[hc];simp[h2]
    rw[h1];simp[h2];omega
theorem Tc{x:Flt}(hv:Au x=true)(hl:x.copies.length<=1048576){y:Cpy}{b:Brt}{bi:Nat}(hb:x.berths[bi]?=some b):(Bc x y b).length<=10:=by
 have h1:=mH x y b x.copies.length;unfold Au at hv;simp only[Bool.and_eq_true]at hv;have h2:=List.all_eq_true.1 hv.2.2.2.2.2 b (List.mem_of_getElem? hb);unfold Hr at h2;simp only[Bool.and_eq_true,decide_eq_true_eq]at h2;have h3:=h2.1.1;rw[Te x.copies b.name _ hl]at h3;unfold Bc;omega
def Sq(x:Flt)(cn bn:BA)(ci bi:Nat)(y:Cpy)(b:Brt):Prop:=Ir x cn bn=some (ci,bi)/\x.copies[ci]?=some y/\x.berths[bi]?=some b/\y.at_=⟨#[]⟩
structure VtRes (x:Flt) (cn bn:BA) (ns:List BA) (found:Bool):Prop where
 no:(∀ci bi y b,¬Sq x cn bn ci bi y b)->ns=[]/\found=false
 at_:∀ci bi y b,Sq x cn bn ci bi y b->∃g,ns=g.map (Lv x.copies)/\(found=true->Best (rkV x) (Bc x y b) (okV x ci y b) g)/\(found=false->g=[]/\∀h,h.Sublist (Bc x y b)->¬okV x ci y b h)
theorem VtRes.none{x:Flt}{cn bn:BA}(h:∀ci bi y b,¬Sq x cn bn ci bi y b):VtRes x cn bn [] false:=⟨λ_=>⟨rfl,rfl⟩,λci bi y b q=>absurd q (h ci bi y b)⟩
theorem nN(xs:List Cpy)(ad:Addr)(cap lo:Nat)(w0 w:World)(hin:SliceC CpyC 12 lo w0 (some ad) xs)(h0:Below w0.heap.size w0 w)(hsm:xs.length<=1048576) :
  Calls prog 24 #[.slice (some ad) xs.length cap] w λe w'=>∃g c cs,e=.returned (.slice (some ⟨g,0,none⟩) xs.length c)/\w'.ownsRow w.heap.size 49 12 (.slice (some ⟨g,0,none⟩) xs.length c) xs.length cs/\(∀j x,xs[j]?=some x->∃(ae:OA)(ce:Nat),(∀i u,(vCp x (.slice ae x.likes.length ce))[i]?=some u->cs[j*12+i]?=some u)/\SliceC LikC 2 lo w0 ae x.likes)/\Below w.heap.size w w':=by
 obtain⟨i0,hi,hz0,hz1,hz2⟩:=info_parts Uz;have q22:∀(w:World)(a:OA)(n c n' c':Nat),(binOp .eql 33 (.slice a n c) (.slice none n' c')).run prog w=.ok (.bool a.isNone) w:=λw a n c n' c'=>Lib.run_eql_slice_nil w _ _ a n c n' c' underlying33
 obtain⟨cs,hcl,hcs,hc1,hcb⟩:=tJ hin;have HCL:=iH hcl;have HS:Hid (∀j u,cs[j]?=some u->w.cell? (ad.add j)=some u):=λj u hu=>(h0.cell (block_lt_of_cell (hcs j u hu))).trans (hcs j u hu)
 have HC1:=iH hc1;have HCB:=iH hcb;clear hin hcl hcs hc1 hcb h0;go_enter func24,ntmps24;go_wp2_with(at_builtin;refine wpList_append_own _ rfl _ _ 33 rfl w.heap.size 49 i0 _ 12 160 underlying33 hi hz0 hz1 hz2 rfl (by decide) _ _ _ rfl (World.ownsRow_made w #[] 0 nL (zL) rfl) ad xs.length _ cs rfl HCL (λj u hj=>Lib.cell?_alloc_some _ (HS j u hj)) HC1 (by unfold maxLen;omega) (by omega) (by simp) ?_;intro v' w1 hown hgrow hnil);have hv:v'≠.slice none 0 0:=λe=>by have:=(hnil.1 e).1;cases this
 have hown':w1.ownsRow w.heap.size 49 12 v' xs.length cs:=by simpa using hown
 obtain⟨g,c,rfl⟩:=pJ hown' hv;have HO:=iH hown';have hB:Below w.heap.size w w1:=((Below.refl _ w).alloc nL _).grown hgrow (by simp) (by intro k hk;cases hk;exact Nat.le_refl _);clear hown hgrow hnil hv hown'
 go_wp2
 go_ret;exact⟨g,c,cs,rfl,HO,HCB,hB⟩
theorem Rr(x:Flt)(cn bn:BA)(a1:OA)(c1:Nat)(a2:OA)(c2:Nat)(a3:OA)(c3 lo:Nat)(w:World)(n1:SliceC BrtC 6 lo w a1 x.berths)(n2:SliceC SvcC 2 lo w a2 x.services)(n3:SliceC CpyC 12 lo w a3 x.copies)(l1:x.berths.length<=1048576)(l2:x.services.length<=1048576)(l3:x.copies.length<=1048576)(hcn:cn.size<=maxLen)(hbn:bn.size<=maxLen)(hlo:lo<=w.heap.size)(hnm:∀(k:Nat) c,x.copies[k]?=some c->c.name.size<=1048576) :
  Calls prog 7 #[.agg (ffA x a1 c1 a2 c2 a3 c3),.string cn,.string bn] w λe w'=>∃(ns:List BA)(d:OA)(q:Nat)(found:Bool),e=.returned (.tuple #[.slice d ns.length q,.bool found])/\VtRes x cn bn ns found/\SliceC StrC 1 w.heap.size w' d ns/\Below w.heap.size w w':=by
 have hb0:=(Below.refl _ w).alloc nL (Obj.cells (ffA x a1 c1 a2 c2 a3 c3) 35);have HX:=iH (Blk.alloc w (ffA x a1 c1 a2 c2 a3 c3) 35);have HB:=iH hb0;have N1:=iH n1;have N2:=iH n2;have N3:=iH n3;clear n1 n2 n3 hb0;go_enter func7,ntmps7;go_upto_region 1 with fail;generalize w.alloc (Obj.cells (ffA x a1 c1 a2 c2 a3 c3) 35)=w0 at *;have hs0:w.heap.size<w0.heap.size:=HX.out.lt;have HRX:=iH HX.out.rangeA;go_wp2_with(first|(refine qLr Oa HRX ?_));clear HRX;refine(cM x a1 c1 a2 c2 a3 c3 lo cn bn w0 (N1.out.below BrtC.holds HB nL) (N2.out.below SvcC.holds HB nL) (N3.out.below CpyC.holds HB nL) l1 l2 l3 hcn hbn).mono ?_;rintro e w1⟨hres,hb1⟩;have hs1:w0.heap.size<=w1.heap.size:=hb1.size;have HB1:=iH (HB.out.trans (hb1.mono (by omega)));have HX1:=qBk HX hb1;clear HB HX;rcases hres with⟨rfl,hsc⟩|⟨p,m1,m2,m3,m4,ci,bi,y,b,a7,c7,am,cm,rfl,hv,hy,hb,hsc,hF,hp,hm4,s7,sm⟩
 .have HNO:Hid (∀ci bi y b,¬Sq x cn bn ci bi y b):=λci bi y b h=>by rw[h.1]at hsc;cases hsc
  clear hsc;have hza:=Blk.alloc w1 Bh 60;have HTS:Hid ((w1.alloc (Obj.cells Bh 60)).there w1.heap.size 0 24):=hza.there;obtain⟨w2,HW2⟩:∃w2,Hid (w2=(w1.alloc (Obj.cells Bh 60)).setCells w1.heap.size 0 (Bh).toList):=⟨_,rfl⟩;have HS2:Hid (Blk w1.heap.size (Bh) 60 w2):=by
   show Blk _ _ _ _
   rw[HW2.out];exact hza.setAll (Bh) rfl
  have hbs:Below w1.heap.size w1 w2:=by
   rw[HW2.out];exact Aj nL _ _ _ ((Below.refl _ w1).alloc nL _)
  clear hza;have hs2:w1.heap.size<w2.heap.size:=HS2.out.lt;have HB2:=iH (HB1.out.trans (hbs.mono (by omega)));have HX2:=qBk HX1 hbs;clear hbs;go_wp2_with(first|(refine An rfl 60 _ _ rfl w1.heap.size 0 (Bh) rfl rfl HTS Bk (by simp[Value.oneCell']) w2 HW2 ?_));exact bodyPost_ret (results_tmp2 rfl _ _ _) rfl ⟨[],none,0,false,rfl,VtRes.none HNO,SliceC.nil,HB2⟩
 .have hbnm:b.name=bn:=pU hsc hb
  have HBN:=iH hbnm;clear hbnm;have HLI:=iH s7;obtain⟨u1,hu1⟩:∃u:Int,u=(Ap x.copies b.name ci x.copies.length).1:=⟨_,rfl⟩;obtain⟨u2,hu2⟩:∃u:Int,u=(Ap x.copies b.name ci x.copies.length).2.1:=⟨_,rfl⟩;obtain⟨u3,hu3⟩:∃u:Int,u=(Ap x.copies b.name ci x.copies.length).2.2:=⟨_,rfl⟩;rw[<-hu1,<-hu2,<-hu3];clear hu1 hu2 hu3 s7 sm;have hza:=Blk.alloc w1 Bh 60;have HTS:Hid ((w1.alloc (Obj.cells Bh 60)).there w1.heap.size 0 24):=hza.there;obtain⟨w2,HW2⟩:∃w2,Hid (w2=(w1.alloc (Obj.cells Bh 60)).setCells w1.heap.size 0 (Ai p ci bi y a7 c7 b am cm u1 u2 u3).toList):=⟨_,rfl⟩;have HS2:Hid (Blk w1.heap.size (Ai p ci bi y a7 c7 b am cm u1 u2 u3) 60 w2):=by
   show Blk _ _ _ _
   rw[HW2.out];exact hza.setAll (Ai p ci bi y a7 c7 b am cm u1 u2 u3) rfl
  have hbs:Below w1.heap.size w1 w2:=by
   rw[HW2.out];exact Aj nL _ _ _ ((Below.refl _ w1).alloc nL _)
  clear hza;have hs2:w1.heap.size<w2.heap.size:=HS2.out.lt;have HB2:=iH (HB1.out.trans (hbs.mono (by omega)));have HX2:=qBk HX1 hbs;have HF2:=iH (hF.below hbs);have HV:=iH hv;have HY:=iH hy;have HBY:=iH hb;have HSC:=iH hsc;have hpl2:p<w1.heap.size:=hF.1.2.1;have hm4l:m4<w1.heap.size:=(FoundM.of hF.1 (y.select,bi)).memo.lt;clear hbs hF hv hy hb hsc;go_upto_region 2 with(first|(refine An rfl 60 _ _ rfl w1.heap.size 0 (Ai p ci bi y a7 c7 b am cm u1 u2 u3) rfl rfl HTS Bk (by simp[Value.oneCell']) w2 HW2 ?_));clear HTS HW2 HX1 HB1;have k13:=HS2.out.cell (o:=13) rfl;by_cases hat:y.at_=⟨#[]⟩
  case neg =>
   have HNO:Hid (∀ci bi y b,¬Sq x cn bn ci bi y b):=λci2 bi2 y2 b2 h=>by
    have e9:=HSC.out.symm.trans h.1;cases e9
    have e8:=HY.out.symm.trans h.2.1;cases e8
    exact hat h.2.2.2
   have hte:=Ay hat;have hte2:y.at_.toList.isEmpty=false:=by
    try unfold ffA
    cases h:y.at_.toList with
    |nil=>exact absurd h hte
    |cons a l=>rfl
   clear hat;go_wp2_with fail;exact bodyPost_ret (results_tmp2 rfl _ _ _) rfl ⟨[],none,0,false,rfl,VtRes.none HNO,SliceC.nil,HB2⟩
  have hte:=Bj hat;have hte2:y.at_.toList.isEmpty=true:=by rw[hte];rfl
  have HAT:=iH hat;clear hat;go_upto_region 4 with fail;clear k13 hte hte2;have hil:=Ac HY;have N32:=iH (N3.out.below CpyC.holds HB2 nL);obtain⟨ad3,had⟩:∃ad,a3=some ad:=by
   rcases N32.out.2 with h9|⟨b9,o9,e9,_⟩
   .rw[h9]at hil;cases hil
   .exact⟨_,e9⟩
  subst had;have HCLA:=iH (λw0 h0=>nN x.copies ad3 c3 lo w w0 N3 h0 l3);refine wp_region_held_drew (S:=λwy=>Blk w.heap.size (ffA x a1 c1 a2 c2 (some ad3) c3) 35 wy/\Blk w1.heap.size (Ai p ci bi y a7 c7 b am cm u1 u2 u3) 60 wy) (by kernel_rfl) ⟨HX2.out.drew,HS2.out.drew⟩ (λhS=>?_);have hdr:Below w2.heap.size w2 w2.drew:=(Below.refl _ _).drew;replace HB2:=iH (HB2.out.trans (hdr.mono (by omega)));replace HF2:=iH (HF2.out.below hdr);replace HS2:=iH HS2.out.drew;replace HX2:=iH HX2.out.drew;replace N32:=qSl CpyC.holds N32 hdr;have hszd:w2.drew.heap.size=w2.heap.size:=rfl;clear hdr;generalize w2.drew=wd at *;refine tz 0 26 (.pointer (some ⟨w1.heap.size,0,none⟩)) ?_;refine ty 1 ⟨some 27,_,_,_,_,none⟩ (.pointer (some ⟨p,0,none⟩)) ?_ ?_
  .intro wy hy
   have hcell:wy.cell? ⟨w1.heap.size,0,none⟩=some (.pointer (some ⟨p,0,none⟩)):=hy.2.cell rfl;clear hy;go_simp
  refine tz 2 28 (.pointer (some ⟨w.heap.size,3,none⟩)) ?_;refine ty 3 ⟨some 29,_,_,_,_,none⟩ (.slice (some ad3) x.copies.length c3) ?_ ?_
  .intro wy hy
   have hcell:wy.cell? ⟨w.heap.size,3,none⟩=some (.slice (some ad3) x.copies.length c3):=hy.1.cell rfl;clear hy;go_simp
  refine rd1 4 ⟨some 30,_,_,_,_,none⟩ rfl (λKK hKK=>?_);go_simp;refine(HCLA wd HB2).mono ?_;rintro e w3⟨G,q,cs,rfl,hro,hcs,hb3⟩;have hs3:=hb3.size;have hGl:=hro.lt G rfl;have HRO:=iH hro;have HCS:=iH hcs;have HB3:=iH (HB2.out.trans (hb3.mono (by omega)));have HF3:=iH (HF2.out.below hb3);have HS3:=iH (HS2.out.below hb3 (by omega));have HX3:=iH (HX2.out.below hb3 (by omega));have HBD:=iH hb3;refine hKK.out _ _ ⟨HX3,HS3⟩ (λhS=>?_);clear hKK KK hro hcs hb3 HCLA HB2 HF2 HS2 HX2;refine tz 5 31 (.pointer (some ⟨p,0,none⟩)) ?_;refine tz 6 32 (.pointer (some ⟨p,0,none⟩)) ?_;refine tz 7 33 (.pointer (some ⟨p,3,none⟩)) ?_;refine rd1 8 ⟨none,_,_,_,_,none⟩ rfl (λKK hKK=>?_);have c8:w3.cell? ⟨p,3,none⟩=some (.slice (some ad3) x.copies.length c3):=HF3.out.1.1 3 _ rfl;have f8:w3.frozen? ⟨p,3,none⟩=false:=HF3.out.2 3;go_simp;clear c8 f8;have hpc:∃cs t f,w3.heap[p]?=some (Obj.cells cs t f):=Ob (a:=⟨p,0+0,none⟩) (HF3.out.1.1 0 _ rfl);have hot:∀b,b≠p->(w3.setCell ⟨p,3,none⟩ (.slice (some ⟨G,0,none⟩) x.copies.length q)).heap[b]?=w3.heap[b]?:=λb hb=>Below.heap_setCell w3 _ _ b hb
  have hsz4:(w3.setCell ⟨p,3,none⟩ (.slice (some ⟨G,0,none⟩) x.copies.length q)).heap.size=w3.heap.size:=by simp[World.setCell]
  have hbw:Below w.heap.size w (w3.setCell ⟨p,3,none⟩ (.slice (some ⟨G,0,none⟩) x.copies.length q)):=HB3.out.setCell (p:=⟨p,3,none⟩) (by show w.heap.size<=p;omega) _;have hFM:FoundM p m1 m2 m3 m4 (y.select,bi) x a1 c1 a2 c2 (some ⟨G,0,none⟩) q (w3.setCell ⟨p,3,none⟩ (.slice (some ⟨G,0,none⟩) x.copies.length q)):=by
   obtain⟨f1,f2,f3,f4,f5,⟨n9,D9,f6,f7,f8⟩,f9⟩:=FoundM.of HF3.out.1 (y.select,bi);have mv:∀{H:Type} {kk:TypeId} {RR:Value->Option (DataW H×List MemPlace)} {m n:Nat} {D:DataW H},w3.ownsMap prog kk RR m n D->(w3.setCell ⟨p,3,none⟩ (.slice (some ⟨G,0,none⟩) x.copies.length q)).ownsMap prog kk RR m n D:=λh=>by
    have hne:=Ns h hpc;obtain⟨es,clock,k1,k2⟩:=h;exact⟨es,clock,(hot _ hne).trans k1,k2⟩
   refine⟨λj v hj=>?_,by rw[hsz4];exact f2,mv f3,mv f4,mv f5,⟨n9,D9,f6,mv f7,f8⟩,f9⟩;by_cases hj3:j=3
   .subst hj3
    cases hj
    rw[Nat.zero_add];exact World.cell?_setCell_same _ _ _ (f1 3 _ rfl)
   .have hj8:=Ac hj
    rw[World.cell?_setCell_other _ _ _ _ (λe9=>hj3 (by have:=congrArg Addr.off e9;simp at this;omega))];refine f1 j v ?_;have hj9:j<8:=hj8;rcases(by omega:j=0\/j=1\/j=2\/j=4\/j=5\/j=6\/j=7)with rfl|rfl|rfl|rfl|rfl|rfl|rfl<;>exact hj
  have hOW:OwnCT lo wd.heap.size (w3.setCell ⟨p,3,none⟩ (.slice (some ⟨G,0,none⟩) x.copies.length q)) (.slice (some ⟨G,0,none⟩) x.copies.length q) x.copies:=⟨G,q,cs,rfl,Ew HRO (hot G (by omega)),λj z hj=>by
   obtain⟨ae,ce,k1,k2⟩:=HCS.out j z hj;refine⟨ae,ce,k1,k2.below LikC.holds hbw nL,λhn b o e=>?_⟩;rcases k2.2 with k3|⟨b2,o2,e2,_,k4,_⟩
   .exact absurd k3 hn
   .rw[e]at e2;cases e2;omega⟩
  have hS4:Blk w1.heap.size (Ai p ci bi y a7 c7 b am cm u1 u2 u3) 60 (w3.setCell ⟨p,3,none⟩ (.slice (some ⟨G,0,none⟩) x.copies.length q)):=(hot _ (by omega)).trans HS3;have hX4:Blk w.heap.size (ffA x a1 c1 a2 c2 (some ad3) c3) 35 (w3.setCell ⟨p,3,none⟩ (.slice (some ⟨G,0,none⟩) x.copies.length q)):=(hot _ (by omega)).trans HX3;have HFM:=iH hFM;have HOW:=iH hOW;have HS4:=iH hS4;have HX4:=iH hX4;have HB4:=iH hbw;refine hKK.out _ _ ⟨HX4,HS4⟩ (λhS=>?_);clear hKK KK hot hbw hFM hOW hS4 hX4 HB3 HF3 HS3 HX3 hpc HRO HCS;generalize w3.setCell ⟨p,3,none⟩ (.slice (some ⟨G,0,none⟩) x.copies.length q)=w4 at *;refine td ?_;clear hS;have hpre:VPre {p:=p,m1:=m1,m2:=m2,m3:=m3,m4:=m4,ci:=ci,bi:=bi,G:=G,q:=q,lo:=lo,B:=wd.heap.size,L0:=w4.heap.size,c1:=c1,c2:=c2,c7:=c7,cm:=cm,gp:=0,rb:=0,rc:=0,x:=x,a1:=a1,a2:=a2,a7:=a7,am:=am,y:=y,b:=b,u1:=u1,u2:=u2,u3:=u3,is:=[],W0:=w4}:=by
   refine⟨by show p≠G;omega,by show lo<=wd.heap.size;omega,rfl,λw9 h9=>?_,N2.out.below SvcC.holds HB4 nL,HV,HY,HAT,HBY,Qs N3,HFM,HOW⟩;have hbt:Below w.heap.size w w9:=⟨h9.1.1.trans HB4.out.os,h9.1.2.1.trans HB4.out.tape,h9.1.2.2.trans HB4.out.output,lT HB4.out.size h9.2.1,λb9 q9=>(h9.2.2 b9 (lL q9 HB4.out.size) (by show b9≠G;omega) (by show b9≠m4;omega)).trans (HB4.out.block b9 q9)⟩;exact N1.out.below BrtC.holds hbt nL
  have hvic:=cL {p:=p,m1:=m1,m2:=m2,m3:=m3,m4:=m4,ci:=ci,bi:=bi,G:=G,q:=q,lo:=lo,B:=wd.heap.size,L0:=w4.heap.size,c1:=c1,c2:=c2,c7:=c7,cm:=cm,gp:=0,rb:=0,rc:=0,x:=x,a1:=a1,a2:=a2,a7:=a7,am:=am,y:=y,b:=b,u1:=u1,u2:=u2,u3:=u3,is:=[],W0:=w4} hpre (Tc HV l3 HBY);have HVIC:=iH hvic;clear hvic hpre;have HRS:=iH HS4.out.rangeA;go_wp2_with(first|(refine wpList_load_mid rfl 60 _ rfl w1.heap.size 0 (by first|rfl|(simp[go_sem];done)) (Ai p ci bi y a7 c7 b am cm u1 u2 u3).toList _ HRS underlying60 rfl Bk ?_));clear HRS;refine HVIC.out.mono ?_;rintro e w5⟨r,ra,rc,found,rfl,hvo,hsl,hrm,hfm,how,hbt⟩;dsimp only at hvo hsl hrm hfm how hbt;have hs5:=hbt.2.1;have hr10:r.length<=1048576:=by
   cases found with
   |false=>rw[(hvo.2 rfl).1];exact zL
   |true =>
    have h9:r.length<=(Bc x y b).length:=(hvo.1 rfl).1.length_le;have h8:=Tc (y:=y) HV l3 HBY;omega
  have HS5:Hid (Blk w1.heap.size (Ai p ci bi y a7 c7 b am cm u1 u2 u3) 60 w5):=(hbt.2.2 _ HS4.out.lt (by omega) (by omega)).trans HS4;have HB5:Hid (Below w.heap.size w w5):=⟨hbt.1.1.trans HB4.out.os,hbt.1.2.1.trans HB4.out.tape,hbt.1.2.2.trans HB4.out.output,lT HB4.out.size hs5,λb9 q9=>(hbt.2.2 b9 (lL q9 HB4.out.size) (by omega) (by omega)).trans (HB4.out.block b9 q9)⟩;have HNM:=iH (fP p x.copies (some ⟨G,0,none⟩) q lo r ra rc w4.heap.size w5 (hfm.1 3 _ rfl) (how.copies (Qs N3) (by have:=N3.out.1;exact this) (by omega)) hnm hsl (λj t hj=>by obtain⟨c9,h9,_⟩:=Gf (hrm t (List.mem_of_getElem? hj));exact Ac h9) hr10);have HVO:=iH hvo;clear hvo hsl hrm hfm how hbt;have k0:w5.cell? ⟨w1.heap.size,0,none⟩=some (.pointer (some ⟨p,0,none⟩)):=HS5.out.cell rfl;go_wp2_with fail;refine HNM.out.mono ?_;rintro e w6⟨⟨d,qd,rfl,hd⟩,hb6⟩;clear k0;have HD:=iH hd;have HB6:=qTH HB5 hb6;clear hd hb6 HNM;go_wp2_with fail;refine bodyPost_ret (results_tmp2 rfl _ _ _) rfl ⟨r.map (Lv x.copies),d,qd,found,by rw[List.length_map];rfl,⟨λh=>absurd ⟨HSC,HY,HBY,HAT⟩ (h ci bi y b),λci2 bi2 y2 b2 h=>?_⟩,HD.out.keep StrC.holds (Keeps.refl _ _) HB5.out.size,HB6⟩;have e9:=HSC.out.symm.trans h.1;cases e9
  have e8:=HY.out.symm.trans h.2.1;cases e8
  have e7:=HBY.out.symm.trans h.2.2.1;cases e7
  exact⟨r,rfl,HVO.out.1,HVO.out.2⟩
def Jp(r:Int):List Int->List Int
 |[]=>[r]
 |a::l=>if r<=a then a::Jp r l else r::a::l
def eZ(l:List Int):List Int:=l.foldl (λo r=>Jp r o) []
theorem mX(l:List Int)(r:Int):eZ (l++[r])=Jp r (eZ l):=by unfold eZ;rw[List.foldl_append];rfl
theorem bC{r:Int}:∀{o:List Int} {k:Nat},k<=o.length->(∀a∈o.take k,r<=a)->(∀a,o[k]?=some a->a<r)->Jp r o=o.take k++r::o.drop k
 |[],k,hk,_,_=>by
  have:k=0:=by simpa using hk
  subst this;rfl
 |a::l,0,_,_,h2=>by
  have:=h2 a rfl;unfold Jp;rw[if_neg (by omega)];rfl
 |a::l,k+1,hk,h1,h2=>by
  have:=h1 a (by simp);unfold Jp;rw[if_pos this,bC (k:=k) (by simpa using hk) (λb hb=>h1 b (by simp[hb])) (λb hb=>h2 b (by simpa using hb))];rfl
theorem Mz(r:Int):∀o:List Int,(Jp r o).Perm (r::o)
 |[]=>.refl _
 |a::l=>by
  unfold Jp
  split
  .exact((Mz r l).cons a).trans (.swap r a l)
  .exact .refl _
theorem sG(r:Int)(o:List Int):(Jp r o).length=o.length+1:=by rw[(Mz r o).length_eq];rfl
theorem Yp{r:Int}:∀{o:List Int},o.Pairwise (λa b=>b<=a)->(Jp r o).Pairwise (λa b=>b<=a)
 |[],_=>by simp[Jp]
 | a::l,h=>by
  rw[List.pairwise_cons]at h;unfold Jp
  split
  case isTrue hra =>
   rw[List.pairwise_cons];refine⟨λb hb=>?_,Yp h.2⟩;rcases List.mem_cons.1 ((Mz r l).subset hb)with e|e
   .rw[e];exact hra
   .exact h.1 b e
  case isFalse hra =>
   rw[List.pairwise_cons];refine⟨λb hb=>?_,by rw[List.pairwise_cons];exact h⟩;rcases List.mem_cons.1 hb with e|e
   .rw[e];omega
   .have:=h.1 b e
    omega
theorem lS:∀(l o:List Int),o.Pairwise (λa b=>b<=a)->(l.foldl (λo r=>Jp r o) o).Pairwise (λa b=>b<=a)/\(l.foldl (λo r=>Jp r o) o).Perm (l++o)
 |[],o,h=>⟨h,.refl _⟩
 |r::l,o,h=>by
  obtain⟨h1,h2⟩:=lS l (Jp r o) (Yp h);refine⟨h1,h2.trans ?_⟩;exact((Mz r o).append_left l).trans List.perm_middle
theorem Vb{α:Type}{l:List α}{j t:Nat}{a:α}(h:(l.take j)[t]?=some a):l[t]?=some a:=by
 rw[List.getElem?_take]at h
 split at h
 .exact h
 .cases h
theorem vR(cs:List Cpy)(s:BA):Ei cs s<(cs.length:Int):=by
 unfold Ei
 cases h:cs.findIdx? (λb=>decide (b.name=s))with
 |none=>simp only;omega
 |some k =>
  have:=(List.findIdx?_eq_some_iff_getElem.1 h).1;simp only;omega
def Wy(x:Flt)(g:BA):Int:=match x.copies[(Ei x.copies g).toNat]? with
 |some c=>c.rank
 |none=>0
def CP(x:Flt)(q:Nat):Int:=match x.copies[q]? with
 |some c=>c.rank
 |none=>0
def tI(x:Flt)(gone:List BA)(k:Nat):Prop:=∀j g,j<k->gone[j]?=some g->0<=Ei x.copies g
end Go.Proofs.YtpidfnfilnkhkaaGreat
