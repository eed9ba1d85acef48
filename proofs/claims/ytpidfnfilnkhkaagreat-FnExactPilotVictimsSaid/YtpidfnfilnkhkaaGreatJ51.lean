import Derived.Test.YtpidfnfilnkhkaaGreatVsl
import Derived.Test.YtpidfnfilnkhkaaGreatSp3
import Derived.Laws.IdiomStrings
set_option maxHeartbeats 8000000
set_option maxRecDepth 100000
namespace Go.Proofs.YtpidfnfilnkhkaaGreat
open Go.RowKit Go.WideMaps Go.Maps Tryz
theorem uK{w w':World}{g o:Nat}{v:Value}{l:List Value}(h:w.rangeAt g o (v::l))(hb:Below w.heap.size w w')(hg:g<w.heap.size):w'.rangeAt g o (v::l):=λj u hj=>(hb.cell (p:=⟨g,o+j,none⟩) hg).trans (h j u hj)
theorem eW(x:Flt)(a1:OA)(c1 b2 o2 c2:Nat)(a3:OA)(c3:Nat)(cn bn:BA)(lo:Nat)(w:World)(n1:SliceC BrtC 6 lo w a1 x.berths)(n2:SliceC SvcC 2 lo w (some ⟨b2,o2,none⟩) x.services)(n3:SliceC CpyC 12 lo w a3 x.copies)(l1:x.berths.length<=1048576)(l2:x.services.length<=1048576)(l3:x.copies.length<=1048576)(hmk:∀y∈x.berths,y.marks.length<=1048576)(hlk:∀y∈x.copies,y.likes.length<=1048576) :
  Calls prog 5 #[.agg (ffA x a1 c1 (some ⟨b2,o2,none⟩) c2 a3 c3),.string cn,.string bn] w λe w'=>∃ns d q found,e=.returned (.tuple #[.slice d ns.length q,.bool found])/\VtRes x cn bn ns found/\SliceC StrC 1 w.heap.size w' d ns/\Below w.heap.size w w':=by
 have N1:=iH n1;have N2:=iH n2;have N3:=iH n3;have HE:=iH (qV x l3);have HX0:=iH (Blk.alloc w (ffA x a1 c1 (some ⟨b2,o2,none⟩) c2 a3 c3) 35);have HB0:=iH ((Below.refl _ w).alloc nL (Obj.cells (ffA x a1 c1 (some ⟨b2,o2,none⟩) c2 a3 c3) 35));clear n1 n2 n3;go_enter func5,ntmps5;go_upto_region 1 with fail;generalize w.alloc (Obj.cells (ffA x a1 c1 (some ⟨b2,o2,none⟩) c2 a3 c3) 35)=w0 at *;have HRX:=iH HX0.out.rangeA;go_wp2_with(first|(refine qLr Oa HRX ?_));clear HRX;refine(Il x a1 c1 (some ⟨b2,o2,none⟩) c2 a3 c3 lo cn w0 (N3.out.below CpyC.holds HB0 nL) l3).mono ?_;rintro e w1⟨rfl,hb1⟩;have HB1:=qTH HB0 hb1;have HX1:=qBk HX0 hb1;clear hb1 HB0 HX0;have HRX:=iH HX1.out.rangeA;go_wp2_with(first|(refine qLr Oa HRX ?_));clear HRX;refine(Jd x a1 c1 (some ⟨b2,o2,none⟩) c2 a3 c3 lo bn w1 (N1.out.below BrtC.holds HB1 nL) l1).mono ?_;rintro e w2⟨rfl,hb2⟩;have HB2:=qTH HB1 hb2;have HX2:=qBk HX1 hb2;clear hb2 HB1 HX1;have HRX:=iH HX2.out.rangeA;go_wp2_with(first|(refine qLr Oa HRX ?_));clear HRX;refine(Wq x a1 c1 (some ⟨b2,o2,none⟩) c2 a3 c3 lo w2 (N1.out.below BrtC.holds HB2 nL) (N2.out.below SvcC.holds HB2 nL) (N3.out.below CpyC.holds HB2 nL) l1 l2 l3).mono ?_;rintro e w3⟨rfl,hb3⟩;have HB3:=qTH HB2 hb3;have HX3:=qBk HX2 hb3;clear hb3 HB2 HX2
 cases hv:Qz x with
 | false =>
  have HNO:Hid (∀ci bi y b,¬Sq x cn bn ci bi y b):=λci bi y b h=>by
   have h9:=h.1;rw[Uh (HE.out.trans hv)]at h9;cases h9
  clear hv;go_upto_region 4 with fail
  go_wp2
  go_ret2
  exact⟨[],_,_,false,rfl,VtRes.none HNO,SliceC.nil,HB3.out.alloc HB3.out.size _⟩
 | true =>
  have HV:Hid (Au x=true):=HE.out.trans hv;clear hv;obtain⟨_,_,_,hcN,_,_⟩:=Aw HV;have hbN:=(Bb HV).2.1;have HCN:=iH hcN;have HBN:=iH hbN;clear hcN hbN
  cases hci:Al (cpN x) cn x.copies.length with
  | none =>
   have HNO:Hid (∀ci bi y b,¬Sq x cn bn ci bi y b):=λci bi y b h=>by
    have h9:=h.1;rw[cP hci]at h9;cases h9
   rw[wK hci];clear hci;go_upto_region 4 with fail
   go_wp2
   go_ret2
   exact⟨[],_,_,false,rfl,VtRes.none HNO,SliceC.nil,HB3.out.alloc HB3.out.size _⟩
  | some ci =>
   obtain⟨hix,y,hy,hyn⟩:=Hz HCN hci;clear hyn;rw[hix];have hil:=Ac hy;have HY:=iH hy;clear hix hy
   cases hbi:Al (brN x) bn x.berths.length with
   | none =>
    have HNO:Hid (∀ci bi y b,¬Sq x cn bn ci bi y b):=λci bi y b h=>by
     have h9:=h.1;rw[eO hbi]at h9;cases h9
    rw[vZ hbi];clear hbi hci;go_upto_region 4 with fail
    go_wp2
    go_ret2
    exact⟨[],_,_,false,rfl,VtRes.none HNO,SliceC.nil,HB3.out.alloc HB3.out.size _⟩
   | some bi =>
    obtain⟨hjx,b,hb,hbn⟩:=Yj HBN hbi;clear hbn;rw[hjx];have hbl:=Ac hb;have HBB:=iH hb;clear hjx hb;have HSC:Hid (Ir x cn bn=some (ci,bi)):=cK HV hci hbi;clear hci hbi;obtain⟨b3,o3,rfl,_,hb3w,hcc⟩:=(N3.out.below CpyC.holds HB3 nL).at HY;obtain⟨a7,c7,hrc,s7⟩:=lX hcc;obtain⟨b1,o1,rfl,_,hb1w,hbc⟩:=(N1.out.below BrtC.holds HB3 nL).at HBB;obtain⟨am,cm,hrb,sm⟩:=mC hbc;have HRC:=iH hrc;have HRB:=iH hrb;have HSM:=iH sm;clear hcc hrc s7 hbc hrb sm;have kat:w3.cell? ⟨b3,o3+ci*12+11,none⟩=some (.string y.at_):=HRC.out 11 _ rfl;have kf3:=HX3.out.cell (o:=3) rfl;have hd1:decide ((ci:Int)<0)=false:=by simp
    have hd2:decide ((bi:Int)<0)=false:=by simp
    by_cases hat:y.at_=⟨#[]⟩
    case neg =>
     have HNO:Hid (∀ci bi y b,¬Sq x cn bn ci bi y b):=λci2 bi2 y2 b2 h=>by
      have e9:=HSC.out.symm.trans h.1;cases e9
      have e8:=HY.out.symm.trans h.2.1;cases e8
      exact hat h.2.2.2
     have hte:=Ay hat;have hte2:y.at_.toList.isEmpty=false:=by
      try unfold ffA
      cases h:y.at_.toList with
      |nil=>exact absurd h hte
      |cons a l=>rfl
     clear hat;go_upto_region 4 with fail
     go_wp2
     go_ret2
     exact⟨[],_,_,false,rfl,VtRes.none HNO,SliceC.nil,HB3.out.alloc HB3.out.size _⟩
    case pos =>
     have hte:=Bj hat;have hte2:y.at_.toList.isEmpty=true:=by rw[hte];rfl
     have HAT:=iH hat;clear hat;go_upto_region 5 with fail;clear kat kf3 hte hte2 hd1 hd2;refine wp_region_held_drew (S:=λwy=>Blk w.heap.size (ffA x (some ⟨b1,o1,none⟩) c1 (some ⟨b2,o2,none⟩) c2 (some ⟨b3,o3,none⟩) c3) 35 wy/\wy.rangeAt b3 (o3+ci*12) (ccL y a7 c7)/\wy.rangeAt b1 (o1+bi*6) (bbL b am cm)) (by kernel_rfl) ⟨HX3.out.drew,HRC,HRB⟩ (λhS=>?_);have hdr:Below w3.heap.size w3 w3.drew:=(Below.refl _ _).drew;replace HX3:=iH HX3.out.drew;replace HB3:=iH HB3.out.drew;replace HRC:Hid (w3.drew.rangeAt b3 (o3+ci*12) (ccL y a7 c7)):=HRC.out;replace HRB:Hid (w3.drew.rangeAt b1 (o1+bi*6) (bbL b am cm)):=HRB.out;replace HSM:=qSl StrC.holds HSM hdr;replace hb3w:b3<w3.drew.heap.size:=hb3w;replace hb1w:b1<w3.drew.heap.size:=hb1w;clear hdr;generalize w3.drew=wn at *;refine tm 0 37 w.heap.size 0 (ffL x (some ⟨b1,o1,none⟩) c1 (some ⟨b2,o2,none⟩) c2 (some ⟨b3,o3,none⟩) c3) rfl (λ_ h=>h.1.rangeA) underlying35 Ea hS ?_;refine tz 1 38 (.pointer (some ⟨w.heap.size,3,none⟩)) ?_;refine ty 2 ⟨some 39,_,_,_,_,none⟩ (.slice (some ⟨b3,o3,none⟩) x.copies.length c3) ?_ ?_
     .intro wy hy
      have h0:=Blk.cell hy.1 (o:=3) rfl;clear hy;go_simp
     refine tz 3 40 (.int .i64 (ci:Int)) ?_;refine ty 4 ⟨some 41,_,_,_,_,none⟩ (.pointer (some ⟨b3,o3+ci*12,none⟩)) ?_ ?_
     .intro wy hy
      clear hy
      first|(go_simp;done)|(go_simp;omega)
     refine tm 5 42 b3 (o3+ci*12) (ccL y a7 c7) rfl (λ_ h=>h.2.1) underlying49 Dk hS ?_;refine tz 6 43 (.pointer (some ⟨w.heap.size,1,none⟩)) ?_;refine ty 7 ⟨some 44,_,_,_,_,none⟩ (.slice (some ⟨b1,o1,none⟩) x.berths.length c1) ?_ ?_
     .intro wy hy
      have h0:=Blk.cell hy.1 (o:=1) rfl;clear hy;go_simp
     refine tz 8 45 (.int .i64 (bi:Int)) ?_;refine ty 9 ⟨some 46,_,_,_,_,none⟩ (.pointer (some ⟨b1,o1+bi*6,none⟩)) ?_ ?_
     .intro wy hy
      clear hy
      first|(go_simp;done)|(go_simp;omega)
     refine tm 10 47 b1 (o1+bi*6) (bbL b am cm) rfl (λ_ h=>h.2.2) underlying52 Dl hS ?_;refine rd1 11 ⟨some 48,_,_,_,_,none⟩ rfl (λK hK=>?_);go_simp;refine(Xb lo ci bi x (some ⟨b1,o1,none⟩) c1 b2 o2 c2 (some ⟨b3,o3,none⟩) c3 y a7 c7 b am cm wn (N1.out.below BrtC.holds HB3 nL) (N2.out.below SvcC.holds HB3 nL) (N3.out.below CpyC.holds HB3 nL) HSM HY HBB HAT HV (Qs N3 y (List.mem_of_getElem? HY)).2.2.1 hmk hlk).mono ?_;rintro e wz⟨g,found,d,q,rfl,hbt,hsl,hb⟩;have hS2:wz.rangeAt b3 (o3+ci*12) (ccL y a7 c7)/\wz.rangeAt b1 (o1+bi*6) (bbL b am cm):=⟨uK HRC hb (by omega),uK HRB hb (by omega)⟩;refine hK.out _ _ ⟨HX3.out.below hb HX3.out.lt,hS2⟩ (λhS=>?_);clear hK K;clear hS2;refine tz 12 49 (.slice d (Ct x g).length q) ?_;refine tz 13 50 (.bool found) ?_;refine tz 14 6 (.slice d (Ct x g).length q) ?_;refine tz 15 7 (.bool found) ?_;refine td ?_;clear hS
     go_wp2
     go_ret2
     refine⟨Ct x g,d,q,found,rfl,⟨λh=>absurd ⟨HSC,HY,HBB,HAT⟩ (h ci bi y b),λci2 bi2 y2 b2 h=>?_⟩,hsl.keep StrC.holds (Keeps.refl _ _) HB3.out.size,qTr HB3 hb⟩;have e9:=HSC.out.symm.trans h.1;cases e9
     have e8:=HY.out.symm.trans h.2.1;cases e8
     have e7:=HBB.out.symm.trans h.2.2.1;cases e7
     exact⟨g,rfl,hbt.all.1,hbt.all.2⟩
theorem VtRes.one{x:Flt}{cn bn:BA}{ns ms:List BA}{f g:Bool}(h:VtRes x cn bn ns f)(h':VtRes x cn bn ms g):ns=ms/\f=g:=by
 by_cases ex:∃ci bi y b,Sq x cn bn ci bi y b
 .obtain⟨ci,bi,y,b,ha⟩:=ex
  obtain⟨l,rfl,h1,h2⟩:=h.at_ _ _ _ _ ha;obtain⟨m,rfl,h3,h4⟩:=h'.at_ _ _ _ _ ha;cases f<;>cases g
  .rw[(h2 rfl).1,(h4 rfl).1]
   exact⟨rfl,rfl⟩
  .exact absurd (h3 rfl).2.1 ((h2 rfl).2 m (h3 rfl).1)
  .exact absurd (h1 rfl).2.1 ((h4 rfl).2 l (h1 rfl).1)
  .rw[(h1 rfl).one (h3 rfl)]
   exact⟨rfl,rfl⟩
 .have hn:∀ci bi y b,¬Sq x cn bn ci bi y b:=λci bi y b q=>ex ⟨ci,bi,y,b,q⟩
  obtain⟨rfl,rfl⟩:=h.no hn;obtain⟨rfl,rfl⟩:=h'.no hn;exact⟨rfl,rfl⟩
theorem tL{α:Type}{f:α->Nat}{B:Nat}:∀{l:List α},(∀x∈l,f x<=B)->wS f l<=l.length*(B+1)
 |[],_=>by simp[wS]
 |a::l,h=>by
  have ih:=tL (l:=l) λx hx=>h x (List.mem_cons_of_mem _ hx)
  have ha:=h a List.mem_cons_self;unfold wS at ih⊢;simp only[List.length_cons,List.map_cons,List.sum_cons];rw[Nat.add_mul];omega
theorem pM{x:Flt}(hv:Au x=true){k:Nat}{c:Cpy}(h:x.copies[k]?=some c):c.name.size<=1000:=by
 unfold Au at hv;simp only[Bool.and_eq_true,Dm,Eu,Ca,Bm,Lf,decide_eq_true_eq]at hv;obtain⟨_,⟨_,h1⟩,_⟩:=hv;exact Ou ((Tb _ _).1 h1 k c h).1
theorem VtRes.small{x:Flt}{cn bn:BA}{ns:List BA}{f:Bool}(h:VtRes x cn bn ns f)(hl:x.copies.length<=1048576):wS ByteArray.size ns<=1048576/\ns.length<=60:=by
 by_cases ex:∃ci bi y b,Sq x cn bn ci bi y b
 .obtain⟨ci,bi,y,b,ha⟩:=ex
  have hv:Au x=true:=by
   cases e:Au x with
   |true=>rfl
   |false =>
    have h9:=ha.1;rw[Uh e]at h9;cases h9
  obtain⟨l,rfl,h1,h2⟩:=h.at_ _ _ _ _ ha;have hs:l.Sublist (Bc x y b):=by
   cases f
   .rw[(h2 rfl).1];exact List.nil_sublist _
   .exact(h1 rfl).1
  have h10:l.length<=10:=lT hs.length_le (Tc hv hl ha.2.2.1);have hz:∀s∈l.map (Lv x.copies),s.size<=1000:=by
   intro s hs2;obtain⟨t,ht,rfl⟩:=List.mem_map.1 hs2;obtain⟨c,hc,_⟩:=Gf (hs.subset ht);rw[Gz hc];exact pM hv hc
  have hw:=tL hz;rw[List.length_map]at hw⊢;have:l.length*(1000+1)<=10*(1000+1):=Nat.mul_le_mul_right _ h10;exact⟨by omega,by omega⟩
 .obtain⟨rfl,_⟩:=h.no λci bi y b q=>ex ⟨ci,bi,y,b,q⟩
  exact⟨by simp[wS],by simp⟩
def bR(j:Nat):UInt8:=UInt8.ofNat (48+j%10)
def Xe:Nat->Nat->BA->BA
 |0,_,s=>s
 |f+1,j,s=>if j=0 then s else Xe f (j/10) (⟨#[bR j]⟩++s)
def Zn(k:Nat):BA:=⟨#[109]⟩++Xe 3000 k ⟨#[]⟩
theorem rC(f:Nat)(s:BA):Xe f 0 s=s:=by
 cases f with
 |zero=>rfl
 |succ f=>simp[Xe]
theorem zH(j:Nat):((bR j).toNat:Int)=48+(j:Int)%10:=by
 have h:(bR j).toNat=48+j%10:=by
  unfold bR;rw[UInt8.toNat_ofNat'];omega
 rw[h];omega
theorem Ku(k:Nat)(w:World)(h0:0<k)(h1:k<=1073741824) :
  Calls prog 33 #[.int .i64 k] w (Rt (.string (Zn k)) w):=by
 have HR:Hid (Zn k=⟨#[109]⟩++Xe 3000 k ⟨#[]⟩):=rfl;generalize Zn k=M at *;go_enter func33,ntmps33
 go_wp2
 go_loopw [0,3] (λv o wr=>∃(j f:Nat)(s:BA),v=.int .i64 j/\o=.string s/\j<=1073741824/\Hid ((∃e,j<10^e/\e<=f)/\s.size+f=3000/\Xe f j s=Xe 3000 k ⟨#[]⟩)/\Below w.heap.size w wr) (λv _ _=>(intOf v).toNat)
 case atStart=>exact⟨k,3000,_,rfl,rfl,by omega,⟨⟨10,by omega,by omega⟩,rfl,rfl⟩,Below.refl _ _⟩
 case round =>
  obtain⟨j,f,s,rfl,rfl,hj,HF,hbel⟩:=hrel;by_cases hp:0<j
  .have hcv:(convert 123 9 (.slice (some ⟨wr.heap.size,0,none⟩) 1 1)).run prog (wr.alloc (Obj.cells #[.int .u8 (48+(j:Int)%10)] 5))=.ok (.string ⟨#[bR j]⟩) (wr.alloc (Obj.cells #[.int .u8 (48+(j:Int)%10)] 5)) :=
    run_convert_bytes_back _ _ _ 5 ⟨wr.heap.size,0,none⟩ 1 [bR j] underlying123 underlying5 underlying9 (λi hi=>by
     have:i=0:=by simpa using hi
     subst this;rw[<-zH,Addr.add_mid,World.cell?_alloc_at _ _ _ _ (by rfl)]
     rfl)
   obtain⟨g,rfl⟩:∃g,f=g+1:=by
    obtain⟨e,he,hf⟩:=HF.out.1
    cases e with
    |zero=>simp at he;omega
    |succ e=>exact⟨f-1,by omega⟩
   have HN:Hid ((∃e,j/10<10^e/\e<=g)/\((⟨#[bR j]⟩:BA)++s).size+g=3000/\Xe g (j/10) (⟨#[bR j]⟩++s)=Xe 3000 k ⟨#[]⟩):=by
    obtain⟨a,b,c⟩:=HF.out;refine⟨?_,?_,?_⟩
    .obtain⟨e,he,hf⟩:=a
     cases e with
     |zero=>simp at he;omega
     |succ e=>exact⟨e,by rw[Nat.pow_succ]at he;omega,by omega⟩
    .rw[ByteArray.size_append]
     show 1+_+_=_
     omega
    .rw[<-c]
     simp only[Xe];rw[if_neg (by omega)]
   have hss:s.size<=3000:=by have:=HF.out.2.1;omega
   clear HF
   go_wp2
   go_roundw
   case rel=>exact⟨j/10,g,_,by congr 1,rfl,by omega,HN,hbel.alloc hbel.size _⟩
   case measure=>simp[intOf];omega
  .have hj0:j=0:=by omega
   subst hj0;have HS:Hid (M=⟨#[109]⟩++s):=by
    show _=_
    rw[HR.out,<-HF.out.2.2,rC]
   have hss:s.size<=3000:=by have:=HF.out.2.1;omega
   clear HF
   go_wp2
   go_ret;exact⟨by rw[HS.out];rfl,hbel⟩
def AS:Value->Bool
 |.slice _ _ _=>true
 |_=>false
structure Mkd (lo:Nat) (wx ws w:World):Prop where
 bel:Below lo ws w
 up:∀b o,wx.heap.size<=b->b<ws.heap.size->w.cell? ⟨b,o,none⟩=ws.cell? ⟨b,o,none⟩/\w.frozen? ⟨b,o,none⟩=ws.frozen? ⟨b,o,none⟩
 sl:∀b o v,wx.cell? ⟨b,o,none⟩=some v->AS v=true->w.cell? ⟨b,o,none⟩=some v
 so:∀b o v,wx.cell? ⟨b,o,none⟩=some v->∃u,w.cell? ⟨b,o,none⟩=some u
 fz:∀b o,b<wx.heap.size->w.frozen? ⟨b,o,none⟩=wx.frozen? ⟨b,o,none⟩
 sz:wx.heap.size<=w.heap.size
 lo_:lo<=wx.heap.size
theorem Mkd.start{lo:Nat}{wx ws:World}(h:Below wx.heap.size wx ws)(hl:lo<=wx.heap.size):Mkd lo wx ws ws where
 bel:=Below.refl _ _
 up:=λ_ _ _ _=>⟨rfl,rfl⟩
 sl:=λb o _ hv _=>(h.cell (p:=⟨b,o,none⟩) (block_lt_of_cell hv)).trans hv
 so:=λb o v hv=>⟨v,(h.cell (p:=⟨b,o,none⟩) (block_lt_of_cell hv)).trans hv⟩
 fz:=λb o hb=>h.frozen (p:=⟨b,o,none⟩) hb
 sz:=h.size
 lo_:=hl
theorem Mkd.below{lo:Nat}{wx ws w w':World}(m:Mkd lo wx ws w)(h:Below w.heap.size w w'):Mkd lo wx ws w' where
 bel:=m.bel.trans (h.mono (lT m.lo_ m.sz))
 up:=λb o h1 h2=>by
  have hb:b<w.heap.size:=lL h2 m.bel.size;exact⟨(h.cell (p:=⟨b,o,none⟩) hb).trans (m.up b o h1 h2).1,(h.frozen (p:=⟨b,o,none⟩) hb).trans (m.up b o h1 h2).2⟩
 sl:=λb o v hv hs=>(h.cell (p:=⟨b,o,none⟩) (block_lt_of_cell (m.sl b o v hv hs))).trans (m.sl b o v hv hs)
 so:=λb o v hv=>by
  obtain⟨u,hu⟩:=m.so b o v hv;exact⟨u,(h.cell (p:=⟨b,o,none⟩) (block_lt_of_cell hu)).trans hu⟩
 fz:=λb o hb=>(h.frozen (p:=⟨b,o,none⟩) (lL hb m.sz)).trans (m.fz b o hb)
 sz:=lT m.sz h.size
 lo_:=m.lo_
theorem Mkd.set{lo:Nat}{wx ws w:World}(m:Mkd lo wx ws w){b o:Nat}{v0:Value}(hl:lo<=b)(hx:wx.cell? ⟨b,o,none⟩=some v0)(hs:AS v0=false)(v:Value):Mkd lo wx ws (w.setCell ⟨b,o,none⟩ v) where
 bel:=m.bel.setCell hl v
 up:=λb' o' h1 h2=>by
  have hb:=block_lt_of_cell hx;have hne:b'≠b:=by
   have:b<wx.heap.size:=hb;omega
  refine⟨(World.cell?_of_block (w:=w) (a:=⟨b',o',none⟩) (Below.heap_setCell w ⟨b,o,none⟩ v b' hne)).trans (m.up b' o' h1 h2).1,?_⟩;rw[World.frozen?_setCell];exact(m.up b' o' h1 h2).2
 sl:=λb' o' u hu hu2=>by
  by_cases e:(⟨b,o,none⟩:Addr)=⟨b',o',none⟩
  .cases e
   rw[hx]at hu;cases hu
   rw[hs]at hu2;cases hu2
  .exact(World.cell?_setCell_other _ _ _ _ e).trans (m.sl b' o' u hu hu2)
 so:=λb' o' u hu=>by
  obtain⟨u',hu'⟩:=m.so b' o' u hu;by_cases e:(⟨b,o,none⟩:Addr)=⟨b',o',none⟩
  .cases e
   exact⟨v,World.cell?_setCell_same _ _ _ hu'⟩
  .exact⟨u',(World.cell?_setCell_other _ _ _ _ e).trans hu'⟩
 fz:=λb' o' hb=>by
  rw[World.frozen?_setCell];exact m.fz b' o' hb
 sz:=lT m.sz (by simp[World.setCell])
 lo_:=m.lo_
theorem Mkd.rebase{lo:Nat}{wx ws w:World}(m:Mkd lo wx ws w):Mkd lo wx w w where
 bel:=Below.refl _ _
 up:=λ_ _ _ _=>⟨rfl,rfl⟩
 sl:=m.sl
 so:=m.so
 fz:=m.fz
 sz:=m.sz
 lo_:=m.lo_
theorem Mkd.trans{lo:Nat}{wx ws w w':World}(m:Mkd lo wx ws w)(k:Mkd lo wx w w'):Mkd lo wx ws w' where
 bel:=m.bel.trans k.bel
 up:=λb o h1 h2=>by
  have hb:b<w.heap.size:=lL h2 m.bel.size;exact⟨(k.up b o h1 hb).1.trans (m.up b o h1 h2).1,(k.up b o h1 hb).2.trans (m.up b o h1 h2).2⟩
 sl:=k.sl
 so:=k.so
 fz:=k.fz
 sz:=k.sz
 lo_:=k.lo_
theorem Ee(z:Int)(w:World)(h0:0<z)(h1:z<=1073741824) :
  Calls prog 33 #[.int .i64 z] w λe w'=>∃s,e=.returned (.string s)/\Below w.heap.size w w':=by
 obtain⟨k,rfl⟩:∃k:Nat,z=k:=⟨z.toNat,by omega⟩;exact(Ku k w (by omega) (by omega)).mono λ_ _ h=>⟨_,h⟩
theorem aG(xs:List BA)(a:OA)(cap lo:Nat)(z:Int)(wx ws w:World)(hin:SliceC StrC 1 lo wx a xs)(hlo:0<lo)(hm:Mkd lo wx ws w)(h0:0<z)(h1:z+xs.length<=1073741824) :
  Calls prog 11 #[.slice a xs.length cap,.int .i64 z] w λe w'=>e=.returned (.int .i64 (z+xs.length))/\Mkd lo wx ws w':=by
 have HI:=iH hin;have HM:=iH hm;clear hin hm;go_enter func11,ntmps11
 go_wp2
 go_loopw [1,5] (λv i wr=>∃j:Nat,j<=xs.length/\i=.int .i64 j/\v=.int .i64 (z+j)/\Hid (Mkd lo wx ws wr)) (λ_ i _=>xs.length-(intOf i).toNat)
 case atStart=>exact⟨0,zL,rfl,by simp,HM⟩
 case round =>
  clear HM;obtain⟨j,hj,rfl,rfl,hM⟩:=hrel;by_cases hlt:j<xs.length
  .obtain⟨x,hx⟩:=gXe hlt
   obtain⟨b,o,rfl,hb,hbl,hc⟩:=HI.out.at hx;obtain⟨r0,_⟩:=hc;simp only[Nat.mul_one,Nat.add_zero]at r0;have HR:=iH r0;have hne:xs≠[]:=λe=>by rw[e]at hlt;exact absurd hlt (Nat.not_lt_zero _)
   have i0:(0:Int)<=(j:Int):=by omega
   have i1:(j:Int)<(xs.length:Int):=by omega
   clear hx r0;go_wp2_with fail;refine(Ee _ _ (by omega) (by omega)).mono ?_;rintro e w1⟨s,rfl,hb1⟩;have M1:=iH (hM.out.below hb1);obtain⟨u0,c0⟩:=M1.out.so b (o+j) _ HR;have f0:=(M1.out.fz b (o+j) hbl).trans (HI.out.frz hne hlo (o+j));have M2:=iH (M1.out.set hb HR rfl (.string s));clear hb1 M1 hne
   go_wp2
   go_roundw
   case rel=>exact⟨j+1,by omega,by go_num,by go_num,M2⟩
   case measure=>simp[intOf];omega
  .have hje:j=xs.length:=by omega
   subst hje
   go_wp2
   go_ret;exact⟨rfl,hM.out⟩
theorem Wo(xs:List BA)(a:OA)(cap lo:Nat)(z:Int)(wx ws w:World)(hin:SliceC StrC 1 lo wx a xs)(hlo:0<lo)(hm:Mkd lo wx ws w)(h0:0<z)(h1:z+12*(wS ByteArray.size xs:Nat)<=1073741824) :
  Calls prog 11 #[.slice a xs.length cap,.int .i64 z] w λe w'=>∃z',e=.returned (.int .i64 z')/\z<=z'/\z'<=z+12*(wS ByteArray.size xs:Nat)/\Mkd lo wx ws w':=by
 have hl:xs.length<=wS ByteArray.size xs:=Fd;exact(aG xs a cap lo z wx ws w hin hlo hm h0 (by omega)).mono λ_ _ h=>⟨_,h.1,by omega,by omega,h.2⟩
theorem Zw(xs:List Lik)(a:OA)(cap lo:Nat)(z:Int)(wx ws w:World)(hin:SliceC LikC 2 lo wx a xs)(hlo:0<lo)(hm:Mkd lo wx ws w)(h0:0<z)(h1:z+12*(wS Dr xs:Nat)<=1073741824) :
  Calls prog 63 #[.slice a xs.length cap,.int .i64 z] w λe w'=>∃z',e=.returned (.int .i64 z')/\z<=z'/\z'<=z+12*(wS Dr xs:Nat)/\Mkd lo wx ws w':=by
 have HI:=iH hin;have HM:=iH hm;have HW:Hid (wS Dr xs=xs.length+(xs.map Dr).sum):=rfl;have hlen:xs.length<=1048576000:=by have:=HW.out;omega
 have H1:=iH h1;clear hin hm h1;go_enter func63,ntmps63
 go_wp2
 go_loopw [1,5] (λv i wr=>∃(j:Nat)(y0:Int),j<=xs.length/\i=.int .i64 j/\v=.int .i64 y0/\z<=y0/\Hid (y0<=z+12*((j:Int)+(((xs.take j).map Dr).sum:Nat)))/\Hid (Mkd lo wx ws wr)) (λ_ i _=>xs.length-(intOf i).toNat)
 case atStart=>exact⟨0,z,zL,rfl,rfl,by omega,by show _<=_;simp,HM⟩
 case round =>
  clear HM;obtain⟨j,y0,hj,rfl,rfl,hz0,hY,hM⟩:=hrel;by_cases hlt:j<xs.length
  .obtain⟨x,hx⟩:=gXe hlt
   obtain⟨b,o,rfl,hb0,hbl,hc⟩:=HI.out.at hx;obtain⟨q0,q1,_⟩:=hc;simp only[Nat.add_zero]at q0;have HS1:Hid (((xs.take (j+1)).map Dr).sum=((xs.take j).map Dr).sum+Dr x):=Fi _ _ _ _ hx;have HS2:Hid (((xs.take (j+1)).map Dr).sum<=(xs.map Dr).sum):=Df _ _ _;have hyb:y0+12*(1+(Dr x:Nat))<=1073741824:=by
    have e1:=HW.out;have e2:=HS1.out;have e3:=HS2.out;have e4:=hY.out;have e5:=H1.out;omega
   have Q0:=iH q0;have Q1:=iH q1;have hne:xs≠[]:=λe=>by rw[e]at hlt;exact absurd hlt (Nat.not_lt_zero _)
   have HFZ:Hid (∀p,wx.frozen? ⟨b,p,none⟩=false):=HI.out.frz hne hlo;have i0:(0:Int)<=(j:Int):=by omega
   have i1:(j:Int)<(xs.length:Int):=by omega
   clear hx hne q0 q1;go_wp2_with fail;refine(Ee _ _ (by omega) (by omega)).mono ?_;rintro e wa0⟨s0,rfl,hb⟩;have Ma0:=iH (hM.out.below hb);clear hb hM;obtain⟨u0,d0⟩:=Ma0.out.so b (o+j*2) _ Q0;have g0:=(Ma0.out.fz b (o+j*2) hbl).trans (HFZ (o+j*2));have Mb0:=iH (Ma0.out.set hb0 Q0 rfl (.string s0));go_upto_region 5 with fail;clear d0 g0 Ma0;generalize wa0.setCell ⟨b,o+j*2,none⟩ (.string s0)=wb0 at *;go_upto_region 6 with fail;obtain⟨y1,hy1⟩:∃t:Int,t=y0+1:=⟨_,rfl⟩;rw[<-hy1];have ha1:z<=y1:=by omega
   have hb1:y1<=y0+1:=by omega
   clear hy1;obtain⟨u1,d1⟩:=Mb0.out.so b (o+j*2+1) _ Q1;have g1:=(Mb0.out.fz b (o+j*2+1) hbl).trans (HFZ (o+j*2+1));have Mb1:=iH (Mb0.out.set hb0 Q1 rfl (.int .i64 y1));go_upto_region 7 with fail;clear d1 g1 Mb0;generalize wb0.setCell ⟨b,o+j*2+1,none⟩ (.int .i64 y1)=wb1 at *;have HYE:Hid (y1+1<=z+12*(((j+1:Nat):Int)+(((xs.take (j+1)).map Dr).sum:Nat))):=by
    show _<=_
    have e2:=HS1.out;have e4:=hY.out;omega
   clear HS1 HS2 H1
   go_wp2
   go_roundw
   case rel=>exact⟨j+1,y1+1,by omega,by go_num,rfl,by omega,HYE,Mb1⟩
   case measure=>simp[intOf];omega
  .have hje:j=xs.length:=by omega
   subst hje;have HE:Hid (y0<=z+12*(wS Dr xs:Nat)):=by
    have e1:=HW.out;have e4:=hY.out;rw[List.take_length]at e4;show _<=_
    omega
   go_wp2
   go_ret;exact⟨y0,rfl,hz0,HE,hM.out⟩
theorem bN(xs:List Svc)(a:OA)(cap lo:Nat)(z:Int)(wx ws w:World)(hin:SliceC SvcC 2 lo wx a xs)(hlo:0<lo)(hm:Mkd lo wx ws w)(h0:0<z)(h1:z+12*(wS Dz xs:Nat)<=1073741824) :
  Calls prog 31 #[.slice a xs.length cap,.int .i64 z] w λe w'=>∃z',e=.returned (.int .i64 z')/\z<=z'/\z'<=z+12*(wS Dz xs:Nat)/\Mkd lo wx ws w':=by
 have HI:=iH hin;have HM:=iH hm;have HW:Hid (wS Dz xs=xs.length+(xs.map Dz).sum):=rfl;have hlen:xs.length<=1048576000:=by have:=HW.out;omega
 have H1:=iH h1;clear hin hm h1;go_enter func31,ntmps31
 go_wp2
 go_loopw [1,5] (λv i wr=>∃(j:Nat)(y0:Int),j<=xs.length/\i=.int .i64 j/\v=.int .i64 y0/\z<=y0/\Hid (y0<=z+12*((j:Int)+(((xs.take j).map Dz).sum:Nat)))/\Hid (Mkd lo wx ws wr)) (λ_ i _=>xs.length-(intOf i).toNat)
 case atStart=>exact⟨0,z,zL,rfl,rfl,by omega,by show _<=_;simp,HM⟩
 case round =>
  clear HM;obtain⟨j,y0,hj,rfl,rfl,hz0,hY,hM⟩:=hrel;by_cases hlt:j<xs.length
  .obtain⟨x,hx⟩:=gXe hlt
   obtain⟨b,o,rfl,hb0,hbl,hc⟩:=HI.out.at hx;obtain⟨q0,q1,_⟩:=hc;simp only[Nat.add_zero]at q0;have HS1:Hid (((xs.take (j+1)).map Dz).sum=((xs.take j).map Dz).sum+Dz x):=Fi _ _ _ _ hx;have HS2:Hid (((xs.take (j+1)).map Dz).sum<=(xs.map Dz).sum):=Df _ _ _;have hyb:y0+12*(1+(Dz x:Nat))<=1073741824:=by
    have e1:=HW.out;have e2:=HS1.out;have e3:=HS2.out;have e4:=hY.out;have e5:=H1.out;omega
   have Q0:=iH q0;have Q1:=iH q1;have hne:xs≠[]:=λe=>by rw[e]at hlt;exact absurd hlt (Nat.not_lt_zero _)
   have HFZ:Hid (∀p,wx.frozen? ⟨b,p,none⟩=false):=HI.out.frz hne hlo;have i0:(0:Int)<=(j:Int):=by omega
   have i1:(j:Int)<(xs.length:Int):=by omega
   clear hx hne q0 q1;go_wp2_with fail;refine(Ee _ _ (by omega) (by omega)).mono ?_;rintro e wa0⟨s0,rfl,hb⟩;have Ma0:=iH (hM.out.below hb);clear hb hM;obtain⟨u0,d0⟩:=Ma0.out.so b (o+j*2) _ Q0;have g0:=(Ma0.out.fz b (o+j*2) hbl).trans (HFZ (o+j*2));have Mb0:=iH (Ma0.out.set hb0 Q0 rfl (.string s0));go_upto_region 5 with fail;clear d0 g0 Ma0;generalize wa0.setCell ⟨b,o+j*2,none⟩ (.string s0)=wb0 at *;go_upto_region 6 with fail;obtain⟨y1,hy1⟩:∃t:Int,t=y0+1:=⟨_,rfl⟩;rw[<-hy1];have ha1:z<=y1:=by omega
   have hb1:y1<=y0+1:=by omega
   clear hy1;obtain⟨u1,d1⟩:=Mb0.out.so b (o+j*2+1) _ Q1;have g1:=(Mb0.out.fz b (o+j*2+1) hbl).trans (HFZ (o+j*2+1));have Mb1:=iH (Mb0.out.set hb0 Q1 rfl (.int .i64 y1));go_upto_region 7 with fail;clear d1 g1 Mb0;generalize wb0.setCell ⟨b,o+j*2+1,none⟩ (.int .i64 y1)=wb1 at *;have HYE:Hid (y1+1<=z+12*(((j+1:Nat):Int)+(((xs.take (j+1)).map Dz).sum:Nat))):=by
    show _<=_
    have e2:=HS1.out;have e4:=hY.out;omega
   clear HS1 HS2 H1
   go_wp2
   go_roundw
   case rel=>exact⟨j+1,y1+1,by omega,by go_num,rfl,by omega,HYE,Mb1⟩
   case measure=>simp[intOf];omega
  .have hje:j=xs.length:=by omega
   subst hje;have HE:Hid (y0<=z+12*(wS Dz xs:Nat)):=by
    have e1:=HW.out;have e4:=hY.out;rw[List.take_length]at e4;show _<=_
    omega
   go_wp2
   go_ret;exact⟨y0,rfl,hz0,HE,hM.out⟩
theorem aA(xs:List Brt)(a:OA)(cap lo:Nat)(z:Int)(wx ws w:World)(hin:SliceC BrtC 6 lo wx a xs)(hlo:0<lo)(hm:Mkd lo wx ws w)(h0:0<z)(h1:z+12*(wS Cs xs:Nat)<=1073741824) :
  Calls prog 30 #[.slice a xs.length cap,.int .i64 z] w λe w'=>∃z',e=.returned (.int .i64 z')/\z<=z'/\z'<=z+12*(wS Cs xs:Nat)/\Mkd lo wx ws w':=by
 have HI:=iH hin;have HM:=iH hm;have HW:Hid (wS Cs xs=xs.length+(xs.map Cs).sum):=rfl;have hlen:xs.length<=1048576000:=by have:=HW.out;omega
 have H1:=iH h1;clear hin hm h1;go_enter func30,ntmps30
 go_wp2
 go_loopw [1,5] (λv i wr=>∃(j:Nat)(y0:Int),j<=xs.length/\i=.int .i64 j/\v=.int .i64 y0/\z<=y0/\Hid (y0<=z+12*((j:Int)+(((xs.take j).map Cs).sum:Nat)))/\Hid (Mkd lo wx ws wr)) (λ_ i _=>xs.length-(intOf i).toNat)
 case atStart=>exact⟨0,z,zL,rfl,rfl,by omega,by show _<=_;simp,HM⟩
 case round =>
  clear HM;obtain⟨j,y0,hj,rfl,rfl,hz0,hY,hM⟩:=hrel;by_cases hlt:j<xs.length
  .obtain⟨x,hx⟩:=gXe hlt
   obtain⟨b,o,rfl,hb0,hbl,hc⟩:=HI.out.at hx;obtain⟨a2,c2,q0,q1,q2,q3,q4,q5,_,_,n2⟩:=hc;simp only[Nat.add_zero]at q0;have HS1:Hid (((xs.take (j+1)).map Cs).sum=((xs.take j).map Cs).sum+Cs x):=Fi _ _ _ _ hx;have HS2:Hid (((xs.take (j+1)).map Cs).sum<=(xs.map Cs).sum):=Df _ _ _;have hyb:y0+12*(1+(Cs x:Nat))<=1073741824:=by
    have e1:=HW.out;have e2:=HS1.out;have e3:=HS2.out;have e4:=hY.out;have e5:=H1.out;omega
   have hn2:wS ByteArray.size x.marks<=Cs x:=by unfold Cs;omega
   have N2:=iH n2;have Q0:=iH q0;have Q1:=iH q1;have Q2:=iH q2;have Q3:=iH q3;have Q4:=iH q4;have Q5:=iH q5;have hne:xs≠[]:=λe=>by rw[e]at hlt;exact absurd hlt (Nat.not_lt_zero _)
   have HFZ:Hid (∀p,wx.frozen? ⟨b,p,none⟩=false):=HI.out.frz hne hlo;have i0:(0:Int)<=(j:Int):=by omega
   have i1:(j:Int)<(xs.length:Int):=by omega
   clear hx hne q0 q1 q2 q3 q4 q5 n2;go_wp2_with fail;refine(Ee _ _ (by omega) (by omega)).mono ?_;rintro e wa0⟨s0,rfl,hb⟩;have Ma0:=iH (hM.out.below hb);clear hb hM;obtain⟨u0,d0⟩:=Ma0.out.so b (o+j*6) _ Q0;have g0:=(Ma0.out.fz b (o+j*6) hbl).trans (HFZ (o+j*6));have Mb0:=iH (Ma0.out.set hb0 Q0 rfl (.string s0));go_upto_region 5 with fail;clear d0 g0 Ma0;generalize wa0.setCell ⟨b,o+j*6,none⟩ (.string s0)=wb0 at *;go_upto_region 6 with fail;obtain⟨y1,hy1⟩:∃t:Int,t=y0+1:=⟨_,rfl⟩;rw[<-hy1];have ha1:z<=y1:=by omega
   have hb1:y1<=y0+1:=by omega
   clear hy1;go_wp2_with fail;refine(Ee _ _ (by omega) (by omega)).mono ?_;rintro e wa1⟨s1,rfl,hb⟩;have Ma1:=iH (Mb0.out.below hb);clear hb Mb0;obtain⟨u1,d1⟩:=Ma1.out.so b (o+j*6+1) _ Q1;have g1:=(Ma1.out.fz b (o+j*6+1) hbl).trans (HFZ (o+j*6+1));have Mb1:=iH (Ma1.out.set hb0 Q1 rfl (.string s1));go_upto_region 7 with fail;clear d1 g1 Ma1;generalize wa1.setCell ⟨b,o+j*6+1,none⟩ (.string s1)=wb1 at *;go_upto_region 8 with fail;obtain⟨y2,hy2⟩:∃t:Int,t=y1+1:=⟨_,rfl⟩;rw[<-hy2];have ha2:z<=y2:=by omega
   have hb2:y2<=y1+1:=by omega
   clear hy2;have d2:=Mb1.out.sl b (o+j*6+2) _ Q2 rfl;go_wp2_with fail;refine(Wo x.marks a2 c2 lo _ wx ws _ N2 hlo Mb1 (by omega) (by omega)).mono ?_;rintro e wb2⟨y3,rfl,ha3,hb3,hm2⟩;have Mb2:=iH hm2;clear hm2 d2 Mb1;go_upto_region 9 with fail;obtain⟨u3,d3⟩:=Mb2.out.so b (o+j*6+3) _ Q3;have g3:=(Mb2.out.fz b (o+j*6+3) hbl).trans (HFZ (o+j*6+3));have Mb3:=iH (Mb2.out.set hb0 Q3 rfl (.int .i64 y3));go_upto_region 10 with fail;clear d3 g3 Mb2;generalize wb2.setCell ⟨b,o+j*6+3,none⟩ (.int .i64 y3)=wb3 at *;go_upto_region 11 with fail;obtain⟨y4,hy4⟩:∃t:Int,t=y3+1:=⟨_,rfl⟩;rw[<-hy4];have ha4:z<=y4:=by omega
   have hb4:y4<=y3+1:=by omega
   clear hy4;obtain⟨u4,d4⟩:=Mb3.out.so b (o+j*6+4) _ Q4;have g4:=(Mb3.out.fz b (o+j*6+4) hbl).trans (HFZ (o+j*6+4));have Mb4:=iH (Mb3.out.set hb0 Q4 rfl (.int .i64 y4));go_upto_region 12 with fail;clear d4 g4 Mb3;generalize wb3.setCell ⟨b,o+j*6+4,none⟩ (.int .i64 y4)=wb4 at *;go_upto_region 13 with fail;obtain⟨y5,hy5⟩:∃t:Int,t=y4+1:=⟨_,rfl⟩;rw[<-hy5];have ha5:z<=y5:=by omega
   have hb5:y5<=y4+1:=by omega
   clear hy5;obtain⟨u5,d5⟩:=Mb4.out.so b (o+j*6+5) _ Q5;have g5:=(Mb4.out.fz b (o+j*6+5) hbl).trans (HFZ (o+j*6+5));have HYE:Hid (y5+1<=z+12*(((j+1:Nat):Int)+(((xs.take (j+1)).map Cs).sum:Nat))):=by
    show _<=_
    have e2:=HS1.out;have e4:=hY.out;omega
   clear HS1 HS2 H1
   go_wp2
   go_roundw
   case rel=>exact⟨j+1,y5+1,by omega,by go_num,rfl,by omega,HYE,iH (Mb4.out.set hb0 Q5 rfl _)⟩
   case measure=>simp[intOf];omega
  .have hje:j=xs.length:=by omega
   subst hje;have HE:Hid (y0<=z+12*(wS Cs xs:Nat)):=by
    have e1:=HW.out;have e4:=hY.out;rw[List.take_length]at e4;show _<=_
    omega
   go_wp2
   go_ret;exact⟨y0,rfl,hz0,HE,hM.out⟩
theorem bM(xs:List Cpy)(a:OA)(cap lo:Nat)(z:Int)(wx ws w:World)(hin:SliceC CpyC 12 lo wx a xs)(hlo:0<lo)(hm:Mkd lo wx ws w)(h0:0<z)(h1:z+12*(wS Cq xs:Nat)<=1073741824) :
  Calls prog 32 #[.slice a xs.length cap,.int .i64 z] w λe w'=>∃z',e=.returned (.int .i64 z')/\z<=z'/\z'<=z+12*(wS Cq xs:Nat)/\Mkd lo wx ws w':=by
 have HI:=iH hin;have HM:=iH hm;have HW:Hid (wS Cq xs=xs.length+(xs.map Cq).sum):=rfl;have hlen:xs.length<=1048576000:=by have:=HW.out;omega
 have H1:=iH h1;clear hin hm h1;go_enter func32,ntmps32
 go_wp2
 go_loopw [1,5] (λv i wr=>∃(j:Nat)(y0:Int),j<=xs.length/\i=.int .i64 j/\v=.int .i64 y0/\z<=y0/\Hid (y0<=z+12*((j:Int)+(((xs.take j).map Cq).sum:Nat)))/\Hid (Mkd lo wx ws wr)) (λ_ i _=>xs.length-(intOf i).toNat)
 case atStart=>exact⟨0,z,zL,rfl,rfl,by omega,by show _<=_;simp,HM⟩
 case round =>
  clear HM;obtain⟨j,y0,hj,rfl,rfl,hz0,hY,hM⟩:=hrel;by_cases hlt:j<xs.length
  .obtain⟨x,hx⟩:=gXe hlt
   obtain⟨b,o,rfl,hb0,hbl,hc⟩:=HI.out.at hx;obtain⟨a7,c7,q0,q1,q2,q3,q4,q5,q6,q7,q8,q9,q10,q11,_,_,_,_,_,_,n7⟩:=hc;simp only[Nat.add_zero]at q0;have HS1:Hid (((xs.take (j+1)).map Cq).sum=((xs.take j).map Cq).sum+Cq x):=Fi _ _ _ _ hx;have HS2:Hid (((xs.take (j+1)).map Cq).sum<=(xs.map Cq).sum):=Df _ _ _;have hyb:y0+12*(1+(Cq x:Nat))<=1073741824:=by
    have e1:=HW.out;have e2:=HS1.out;have e3:=HS2.out;have e4:=hY.out;have e5:=H1.out;omega
   have hn7:wS Dr x.likes<=Cq x:=by unfold Cq;omega
   have N7:=iH n7;have Q0:=iH q0;have Q1:=iH q1;have Q2:=iH q2;have Q3:=iH q3;have Q4:=iH q4;have Q5:=iH q5;have Q6:=iH q6;have Q7:=iH q7;have Q8:=iH q8;have Q9:=iH q9;have Q10:=iH q10;have Q11:=iH q11;have hne:xs≠[]:=λe=>by rw[e]at hlt;exact absurd hlt (Nat.not_lt_zero _)
   have HFZ:Hid (∀p,wx.frozen? ⟨b,p,none⟩=false):=HI.out.frz hne hlo;have i0:(0:Int)<=(j:Int):=by omega
   have i1:(j:Int)<(xs.length:Int):=by omega
   clear hx hne q0 q1 q2 q3 q4 q5 q6 q7 q8 q9 q10 q11 n7;go_wp2_with fail;refine(Ee _ _ (by omega) (by omega)).mono ?_;rintro e wa0⟨s0,rfl,hb⟩;have Ma0:=iH (hM.out.below hb);clear hb hM;obtain⟨u0,d0⟩:=Ma0.out.so b (o+j*12) _ Q0;have g0:=(Ma0.out.fz b (o+j*12) hbl).trans (HFZ (o+j*12));have Mb0:=iH (Ma0.out.set hb0 Q0 rfl (.string s0));go_upto_region 5 with fail;clear d0 g0 Ma0;generalize wa0.setCell ⟨b,o+j*12,none⟩ (.string s0)=wb0 at *;go_upto_region 6 with fail;obtain⟨y1,hy1⟩:∃t:Int,t=y0+1:=⟨_,rfl⟩;rw[<-hy1];have ha1:z<=y1:=by omega
   have hb1:y1<=y0+1:=by omega
   clear hy1;go_wp2_with fail;refine(Ee _ _ (by omega) (by omega)).mono ?_;rintro e wa1⟨s1,rfl,hb⟩;have Ma1:=iH (Mb0.out.below hb);clear hb Mb0;obtain⟨u1,d1⟩:=Ma1.out.so b (o+j*12+1) _ Q1;have g1:=(Ma1.out.fz b (o+j*12+1) hbl).trans (HFZ (o+j*12+1));have Mb1:=iH (Ma1.out.set hb0 Q1 rfl (.string s1));go_upto_region 7 with fail;clear d1 g1 Ma1;generalize wa1.setCell ⟨b,o+j*12+1,none⟩ (.string s1)=wb1 at *;go_upto_region 8 with fail;obtain⟨y2,hy2⟩:∃t:Int,t=y1+1:=⟨_,rfl⟩;rw[<-hy2];have ha2:z<=y2:=by omega
   have hb2:y2<=y1+1:=by omega
   clear hy2;obtain⟨u2,d2⟩:=Mb1.out.so b (o+j*12+2) _ Q2;have g2:=(Mb1.out.fz b (o+j*12+2) hbl).trans (HFZ (o+j*12+2));have Mb2:=iH (Mb1.out.set hb0 Q2 rfl (.int .i64 y2));go_upto_region 9 with fail;clear d2 g2 Mb1;generalize wb1.setCell ⟨b,o+j*12+2,none⟩ (.int .i64 y2)=wb2 at *;go_upto_region 10 with fail;obtain⟨y3,hy3⟩:∃t:Int,t=y2+1:=⟨_,rfl⟩;rw[<-hy3];have ha3:z<=y3:=by omega
   have hb3:y3<=y2+1:=by omega
   clear hy3;obtain⟨u3,d3⟩:=Mb2.out.so b (o+j*12+3) _ Q3;have g3:=(Mb2.out.fz b (o+j*12+3) hbl).trans (HFZ (o+j*12+3));have Mb3:=iH (Mb2.out.set hb0 Q3 rfl (.int .i64 y3));go_upto_region 11 with fail;clear d3 g3 Mb2;generalize wb2.setCell ⟨b,o+j*12+3,none⟩ (.int .i64 y3)=wb3 at *;go_upto_region 12 with fail;obtain⟨y4,hy4⟩:∃t:Int,t=y3+1:=⟨_,rfl⟩;rw[<-hy4];have ha4:z<=y4:=by omega
   have hb4:y4<=y3+1:=by omega
   clear hy4;obtain⟨u4,d4⟩:=Mb3.out.so b (o+j*12+4) _ Q4;have g4:=(Mb3.out.fz b (o+j*12+4) hbl).trans (HFZ (o+j*12+4));have Mb4:=iH (Mb3.out.set hb0 Q4 rfl (.int .i64 y4));go_upto_region 13 with fail;clear d4 g4 Mb3;generalize wb3.setCell ⟨b,o+j*12+4,none⟩ (.int .i64 y4)=wb4 at *;go_upto_region 14 with fail;obtain⟨y5,hy5⟩:∃t:Int,t=y4+1:=⟨_,rfl⟩;rw[<-hy5];have ha5:z<=y5:=by omega
   have hb5:y5<=y4+1:=by omega
   clear hy5;obtain⟨u5,d5⟩:=Mb4.out.so b (o+j*12+5) _ Q5;have g5:=(Mb4.out.fz b (o+j*12+5) hbl).trans (HFZ (o+j*12+5));have Mb5:=iH (Mb4.out.set hb0 Q5 rfl (.int .i64 y5));go_upto_region 15 with fail;clear d5 g5 Mb4;generalize wb4.setCell ⟨b,o+j*12+5,none⟩ (.int .i64 y5)=wb5 at *;go_upto_region 16 with fail;obtain⟨y6,hy6⟩:∃t:Int,t=y5+1:=⟨_,rfl⟩;rw[<-hy6];have ha6:z<=y6:=by omega
   have hb6:y6<=y5+1:=by omega
   clear hy6;go_wp2_with fail;refine(Ee _ _ (by omega) (by omega)).mono ?_;rintro e wa6⟨s6,rfl,hb⟩;have Ma6:=iH (Mb5.out.below hb);clear hb Mb5;obtain⟨u6,d6⟩:=Ma6.out.so b (o+j*12+6) _ Q6;have g6:=(Ma6.out.fz b (o+j*12+6) hbl).trans (HFZ (o+j*12+6));have Mb6:=iH (Ma6.out.set hb0 Q6 rfl (.string s6));go_upto_region 17 with fail;clear d6 g6 Ma6;generalize wa6.setCell ⟨b,o+j*12+6,none⟩ (.string s6)=wb6 at *;go_upto_region 18 with fail;obtain⟨y7,hy7⟩:∃t:Int,t=y6+1:=⟨_,rfl⟩;rw[<-hy7];have ha7:z<=y7:=by omega
   have hb7:y7<=y6+1:=by omega
   clear hy7;have d7:=Mb6.out.sl b (o+j*12+7) _ Q7 rfl;go_wp2_with fail;refine(Zw x.likes a7 c7 lo _ wx ws _ N7 hlo Mb6 (by omega) (by omega)).mono ?_;rintro e wb7⟨y8,rfl,ha8,hb8,hm7⟩;have Mb7:=iH hm7;clear hm7 d7 Mb6;go_upto_region 19 with fail;obtain⟨u8,d8⟩:=Mb7.out.so b (o+j*12+8) _ Q8;have g8:=(Mb7.out.fz b (o+j*12+8) hbl).trans (HFZ (o+j*12+8));have Mb8:=iH (Mb7.out.set hb0 Q8 rfl (.int .i64 y8));go_upto_region 20 with fail;clear d8 g8 Mb7;generalize wb7.setCell ⟨b,o+j*12+8,none⟩ (.int .i64 y8)=wb8 at *;go_upto_region 21 with fail;obtain⟨y9,hy9⟩:∃t:Int,t=y8+1:=⟨_,rfl⟩;rw[<-hy9];have ha9:z<=y9:=by omega
   have hb9:y9<=y8+1:=by omega
   clear hy9;go_wp2_with fail;refine(Ee _ _ (by omega) (by omega)).mono ?_;rintro e wa9⟨s9,rfl,hb⟩;have Ma9:=iH (Mb8.out.below hb);clear hb Mb8;obtain⟨u9,d9⟩:=Ma9.out.so b (o+j*12+9) _ Q9;have g9:=(Ma9.out.fz b (o+j*12+9) hbl).trans (HFZ (o+j*12+9));have Mb9:=iH (Ma9.out.set hb0 Q9 rfl (.string s9));go_upto_region 22 with fail;clear d9 g9 Ma9;generalize wa9.setCell ⟨b,o+j*12+9,none⟩ (.string s9)=wb9 at *;go_upto_region 23 with fail;obtain⟨y10,hy10⟩:∃t:Int,t=y9+1:=⟨_,rfl⟩;rw[<-hy10];have ha10:z<=y10:=by omega
   have hb10:y10<=y9+1:=by omega
   clear hy10;go_wp2_with fail;refine(Ee _ _ (by omega) (by omega)).mono ?_;rintro e wa10⟨s10,rfl,hb⟩;have Ma10:=iH (Mb9.out.below hb);clear hb Mb9;obtain⟨u10,d10⟩:=Ma10.out.so b (o+j*12+10) _ Q10;have g10:=(Ma10.out.fz b (o+j*12+10) hbl).trans (HFZ (o+j*12+10));have Mb10:=iH (Ma10.out.set hb0 Q10 rfl (.string s10));go_upto_region 24 with fail;clear d10 g10 Ma10;generalize wa10.setCell ⟨b,o+j*12+10,none⟩ (.string s10)=wb10 at *;go_upto_region 25 with fail;obtain⟨y11,hy11⟩:∃t:Int,t=y10+1:=⟨_,rfl⟩;rw[<-hy11];have ha11:z<=y11:=by omega
   have hb11:y11<=y10+1:=by omega
   clear hy11;go_wp2_with fail;refine(Ee _ _ (by omega) (by omega)).mono ?_;rintro e wa11⟨s11,rfl,hb⟩;have Ma11:=iH (Mb10.out.below hb);clear hb Mb10;obtain⟨u11,d11⟩:=Ma11.out.so b (o+j*12+11) _ Q11;have g11:=(Ma11.out.fz b (o+j*12+11) hbl).trans (HFZ (o+j*12+11));have Mb11:=iH (Ma11.out.set hb0 Q11 rfl (.string s11));go_upto_region 26 with fail;clear d11 g11 Ma11;generalize wa11.setCell ⟨b,o+j*12+11,none⟩ (.string s11)=wb11 at *;have HYE:Hid (y11+1<=z+12*(((j+1:Nat):Int)+(((xs.take (j+1)).map Cq).sum:Nat))):=by
    show _<=_
    have e2:=HS1.out;have e4:=hY.out;omega
   clear HS1 HS2 H1
   go_wp2
   go_roundw
   case rel=>exact⟨j+1,y11+1,by omega,by go_num,rfl,by omega,HYE,Mb11⟩
   case measure=>simp[intOf];omega
  .have hje:j=xs.length:=by omega
   subst hje;have HE:Hid (y0<=z+12*(wS Cq xs:Nat)):=by
    have e1:=HW.out;have e4:=hY.out;rw[List.take_length]at e4;show _<=_
    omega
   go_wp2
   go_ret;exact⟨y0,rfl,hz0,HE,hM.out⟩
theorem gG(x:Flt)(a1:OA)(c1:Nat)(a2:OA)(c2:Nat)(a3:OA)(c3:Nat)(lo:Nat)(z:Int)(wx ws w:World)(n1:SliceC BrtC 6 lo wx a1 x.berths)(n2:SliceC SvcC 2 lo wx a2 x.services)(n3:SliceC CpyC 12 lo wx a3 x.copies)(hlo:0<lo)(hm:Mkd lo wx ws w)(h0:0<z)(h1:z+12*(Fc x:Nat)<=1073741824) :
  Calls prog 10 #[.agg (ffA x a1 c1 a2 c2 a3 c3),.int .i64 z] w λe w'=>∃z',e=.returned (.int .i64 z')/\z<=z'/\z'<=z+12*(Fc x:Nat)/\Mkd lo wx ws w':=by
 have N1:=iH n1;have N2:=iH n2;have N3:=iH n3;have HM:=iH hm;have hw:Fc x=wS Cs x.berths+wS Dz x.services+wS Cq x.copies:=rfl;have hw1:Fc x<=wS Cs x.berths+wS Dz x.services+wS Cq x.copies:=by omega
 have hw2:wS Cs x.berths+wS Dz x.services+wS Cq x.copies<=Fc x:=by omega
 clear n1 n2 n3 hm hw;go_enter func10,ntmps10;go_upto_region 1 with fail;have hbx:=(Below.refl _ w).alloc nL (Obj.cells (ffA x a1 c1 a2 c2 a3 c3) 35);have k1:(w.alloc (Obj.cells (ffA x a1 c1 a2 c2 a3 c3) 35)).cell? ⟨w.heap.size,1,none⟩=some (.slice a1 x.berths.length c1):=by simp
 have k2:(w.alloc (Obj.cells (ffA x a1 c1 a2 c2 a3 c3) 35)).cell? ⟨w.heap.size,2,none⟩=some (.slice a2 x.services.length c2):=by simp
 have k3:(w.alloc (Obj.cells (ffA x a1 c1 a2 c2 a3 c3) 35)).cell? ⟨w.heap.size,3,none⟩=some (.slice a3 x.copies.length c3):=by simp
 have M0:=iH (HM.out.below hbx);have hs0:w.heap.size<(w.alloc (Obj.cells (ffA x a1 c1 a2 c2 a3 c3) 35)).heap.size:=by simp
 have hwx:wx.heap.size<=w.heap.size:=HM.out.sz;generalize(w.alloc (Obj.cells (ffA x a1 c1 a2 c2 a3 c3) 35))=w0 at *;clear hbx HM;go_wp2_with fail;refine(aA x.berths a1 c1 lo _ wx _ _ N1 hlo M0.out.rebase (by omega) (by omega)).mono ?_;rintro e w1⟨z1,rfl,ha1,hb1,hm1⟩;have p2:=(hm1.up w.heap.size 2 hwx hs0).1.trans k2;have p3:=(hm1.up w.heap.size 3 hwx hs0).1.trans k3;have M1:=iH (M0.out.trans hm1);have hs1:w.heap.size<w1.heap.size:=block_lt_of_cell p2;clear hm1 M0 k1 k2 k3;go_wp2_with fail;refine(bN x.services a2 c2 lo _ wx _ _ N2 hlo M1.out.rebase (by omega) (by omega)).mono ?_;rintro e w2⟨z2,rfl,ha2,hb2,hm2⟩;have r3:=(hm2.up w.heap.size 3 hwx hs1).1.trans p3;have M2:=iH (M1.out.trans hm2);clear hm2 M1 p2 p3;go_wp2_with fail;refine(bM x.copies a3 c3 lo _ wx _ _ N3 hlo M2.out.rebase (by omega) (by omega)).mono ?_;rintro e w3⟨z3,rfl,ha3,hb3,hm3⟩;have M3:=iH (M2.out.trans hm3);clear hm3 M2 r3
 go_wp2
 go_ret;exact⟨z3,rfl,by omega,by omega,M3⟩
end Go.Proofs.YtpidfnfilnkhkaaGreat
