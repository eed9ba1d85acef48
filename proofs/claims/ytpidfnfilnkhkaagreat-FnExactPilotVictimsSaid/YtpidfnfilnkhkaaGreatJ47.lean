import Derived.Test.YtpidfnfilnkhkaaGreatJ36
set_option maxHeartbeats 8000000
set_option maxRecDepth 100000
namespace Go.Proofs.YtpidfnfilnkhkaaGreat
open Go.RowKit Tryz
theorem gM{P:Program}{ops:Array Oper}{Q:Exit->Act->World->Prop}{md:Region.Mode}{S:World->Prop}{s i:Nat}{oi:Oper}{v:Value}{n:Nat}{l:Array Bool}{a:Act}{w:World}(hi:ops[i]?=some oi)(hr:Region.ready md ops l=[i])(hy:YieldsIf P ops S oi v a)(hS:S w)(h:wpAnyU P md ops Q s S n (l.setIfInBounds i true) (a.put oi.dst v) w):wpAnyU P md ops Q s S (n+1) l a w :=
 ⟨λh0=>(by rw[hr]at h0;cases h0),(by rw[hr];intro j hj;rw[List.mem_singleton.1 hj];exact hy.wpOp hi hS ⟨λ_=>hS,h⟩)⟩
theorem kC{l l':List Cpy}(h:l.map (·.name)=l'.map (·.name))(s:BA):Ei l s=Ei l' s:=by
 have e:∀l:List Cpy,l.findIdx? (λb=>decide (b.name=s))=(l.map (·.name)).findIdx? (λn=>decide (n=s)):=λl=>by
  rw[List.findIdx?_map];rfl
 unfold Ei;rw[e l,e l',h]
theorem rS{α:Type}{C:En α}{m lo:Nat}{w:World}{a:OA}{l:List α}{b o:Nat}(h:SliceC C m lo w a l)(e:a=some ⟨b,o,none⟩)(hn:l≠[]):lo<=b:=by
 rcases h.2 with e2|⟨b',o',e',⟨hlo,_⟩,_⟩
 .exact absurd e2 hn
 .rw[e]at e'
  cases e'
  exact hlo
theorem CA{x:Flt}{s:Stp}{ci:Nat}{y:Cpy}(h:SzC x.copies)(hy:x.copies[ci]?=some y)(hb:s.berth.size<=maxLen):SzC (doF x s ci y).copies:=by
 intro c hc;have z:=h y (List.mem_of_getElem? hy);rcases List.mem_or_eq_of_mem_set hc with h9|h9
 .exact aB h c h9
 .rw[h9]
  exact⟨z.1,z.2.1,z.2.2.1,z.2.2.2.1,z.2.2.2.2.1,hb⟩
def woT(x:Flt)(gone:List BA)(k:Nat):Flt:={x with copies:=atP ((Jn x gone).take k) ⟨#[]⟩ x.copies}
def WoR(x:Flt)(pl:List Nat)(w:World)(e:Ending)(w':World):Prop:=∃(e1:OA)(q1 g2 q2 G q3 bs:Nat),e=.returned (.agg (ffA x e1 q1 (some ⟨g2,0,none⟩) q2 (some ⟨G,0,none⟩) q3))/\w.heap.size<=bs/\(∃H wB,w.heap.size<=H/\SliceC BrtC 6 H wB e1 x.berths/\wB.heap.size<=bs/\Keeps H wB w')/\SliceC SvcC 2 w.heap.size w' (some ⟨g2,0,none⟩) x.services/\g2<bs/\bs<=G/\Rk bs w' (.slice (some ⟨G,0,none⟩) x.copies.length q3) (atP pl ⟨#[]⟩ x.copies)/\Below w.heap.size w w'
theorem dU(x:Flt)(a1:OA)(c1 b2 o2 c2:Nat)(a3:OA)(c3:Nat)(gone:List BA)(ga:OA)(gc lo:Nat)(w:World)(n1:SliceC BrtC 6 lo w a1 x.berths)(n2:SliceC SvcC 2 lo w (some ⟨b2,o2,none⟩) x.services)(n3:SliceC CpyC 12 lo w a3 x.copies)(hg:SliceC StrC 1 lo w ga gone)(hgl:gone.length<=1048576)(l1:x.berths.length<=1048576)(l2:x.services.length<=1048576)(l3:x.copies.length<=1048576)(hmk:∀y∈x.berths,y.marks.length<=1048576)(hlk:∀y∈x.copies,y.likes.length<=1048576)(hne:x.copies≠[])(hix:∀(k:Nat) g,gone[k]?=some g->∃t:Nat,Ei x.copies g=(t:Int)/\t<x.copies.length) :
  Calls prog 49 #[.agg (ffA x a1 c1 (some ⟨b2,o2,none⟩) c2 a3 c3),.slice ga gone.length gc] w λe w'=>WoR x (Jn x gone) w e w':=by
 obtain⟨w0,hw0,HX,HZ,HB⟩:=alT w (ffA x a1 c1 (some ⟨b2,o2,none⟩) c2 a3 c3) FfA 35 35;have N1:=iH n1;have N2:=iH n2;have N3:=iH n3;have NG:=iH hg;have HIX:=iH hix;have HSZ:=iH (Qs n3);clear n1 n2 n3 hg hix;go_enter func49,ntmps49;go_upto_region 1 with fail;rw[<-hw0];clear hw0;have hs0:w.heap.size+1<w0.heap.size:=HZ.out.lt;have HRX:=iH HX.out.rangeA;go_wp2_with(first|(refine qLr Oa HRX ?_));clear HRX HX;refine(fL x a1 c1 b2 o2 c2 a3 c3 lo w0 (N1.out.below BrtC.holds HB nL) (N2.out.below SvcC.holds HB nL) (N3.out.below CpyC.holds HB nL) l2 l1 l3 hmk hlk).mono ?_;rintro e w1⟨e1,q1,g2,q2,e3,q3,bs,H,wB,rfl,_,hbr,hH,hHb,hwb,hkp,hsv,hg2,hoc,hb1⟩;obtain⟨G,rfl⟩:∃G,e3=some ⟨G,0,none⟩:=by
  obtain⟨cs,h9,_⟩:=hoc;rcases h9.2 with⟨e9,_⟩|⟨g,cap,cur,e9,_⟩
  .injection e9 with _ e8
   exact absurd (List.length_eq_zero_iff.1 e8) hne
  .injection e9 with e7
   exact⟨g,e7⟩
 have hGl:bs<=G/\G<w1.heap.size:=by
  obtain⟨cs,h9,_⟩:=hoc;exact h9.lt G rfl
 have hs1:w0.heap.size<=w1.heap.size:=hb1.size;have HZ1:=qBk HZ hb1;have HB1:=iH (HB.out.trans (hb1.mono (by omega)));have hza:=Blk.alloc w1 FfA 35;have HTS:=iH hza.there;obtain⟨w2,HE2⟩:∃w2,Hid (w2=(w1.alloc (Obj.cells FfA 35)).setCells w1.heap.size 0 (ffL x e1 q1 (some ⟨g2,0,none⟩) q2 (some ⟨G,0,none⟩) q3)):=⟨_,rfl⟩;have HV2:Hid (Blk w1.heap.size (ffA x e1 q1 (some ⟨g2,0,none⟩) q2 (some ⟨G,0,none⟩) q3) 35 w2):=by
  show Blk _ _ _ _
  rw[HE2.out];exact hza.setAll (ffA x e1 q1 (some ⟨g2,0,none⟩) q2 (some ⟨G,0,none⟩) q3) rfl
 have hb2:Below w1.heap.size w1 w2:=by
  rw[HE2.out];exact Aj nL _ _ _ ((Below.refl _ _).alloc nL _)
 clear hza;have hs2:w1.heap.size<w2.heap.size:=HV2.out.lt;have HZ2:=qBk HZ1 hb2;have HB2:=iH (HB1.out.trans (hb2.mono (by omega)));have HK2:Hid (Keeps H wB w2):=hkp.trans (Keeps.of_below hb2 nL _);have HS2:=iH (hsv.below SvcC.holds hb2 nL);have HO2:Hid (Rk bs w2 (.slice (some ⟨G,0,none⟩) x.copies.length q3) (atP ((Jn x gone).take 0) ⟨#[]⟩ x.copies)):=by
  show Rk _ _ _ _
  rw[List.take_zero,mI];exact hoc.below LikC.holds hb2
 have HBR:=iH hbr;clear hbr hkp hsv hoc hb1 hb2 HZ HB HZ1 HB1;go_upto_region 3 with(first|(refine An rfl 35 _ _ rfl w1.heap.size 0 (ffA x e1 q1 (some ⟨g2,0,none⟩) q2 (some ⟨G,0,none⟩) q3) rfl rfl HTS Ea (by simp[Value.oneCell']) w2 HE2 ?_));clear HTS HE2;go_loopw [6] (λi wr=>∃k:Nat,k<=gone.length/\i=.int .i64 k/\w1.heap.size<wr.heap.size/\Hid (Rk bs wr (.slice (some ⟨G,0,none⟩) x.copies.length q3) (atP ((Jn x gone).take k) ⟨#[]⟩ x.copies))/\Hid (Blk w1.heap.size (ffA x e1 q1 (some ⟨g2,0,none⟩) q2 (some ⟨G,0,none⟩) q3) 35 wr)/\Hid (Blk (w.heap.size+1) FfA 35 wr)/\Hid (Keeps H wB wr)/\Hid (SliceC SvcC 2 w0.heap.size wr (some ⟨g2,0,none⟩) x.services)/\Hid (Below w.heap.size w wr)) (λi _=>gone.length-(intOf i).toNat)
 case atStart=>exact⟨0,zL,rfl,hs2,HO2,HV2,HZ2,HK2,HS2,HB2⟩
 case round =>
  clear HO2 HV2 HZ2 HK2 HS2 HB2;obtain⟨k,hk,rfl,hsr,HO,HV,HZ,HK,HS,HB⟩:=hrel;by_cases hlt:k<gone.length
  case neg =>
   have hke:k=gone.length:=by omega
   subst hke;have HRV:=iH HV.out.rangeA;have HTZ:=iH HZ.out.there;obtain⟨wf,HE⟩:∃wf,Hid (wf=wr.setCells (w.heap.size+1) 0 (ffL x e1 q1 (some ⟨g2,0,none⟩) q2 (some ⟨G,0,none⟩) q3)):=⟨_,rfl⟩;have HRf:Hid (wf.rangeAt (w.heap.size+1) 0 (ffL x e1 q1 (some ⟨g2,0,none⟩) q2 (some ⟨G,0,none⟩) q3)):=by
    show World.rangeAt _ _ _ _
    rw[HE.out];exact World.rangeAt_setCells_same wr (w.heap.size+1) 0 _ HTZ
   have HF:Hid (WoR x (Jn x gone) w (.returned (.agg (ffA x e1 q1 (some ⟨g2,0,none⟩) q2 (some ⟨G,0,none⟩) q3))) wf):=by
    show WoR _ _ _ _ _
    rw[HE.out];have hg9:=Ej (b:=w.heap.size+1) (ffL x e1 q1 (some ⟨g2,0,none⟩) q2 (some ⟨G,0,none⟩) q3) 0 wr;have ho9:=HO.out;rw[show gone.length=(Jn x gone).length by unfold Jn;rw[List.length_map],List.take_length]at ho9;refine⟨e1,q1,g2,q2,G,q3,bs,rfl,by omega,⟨H,wB,by omega,HBR,hwb,HK.out.grownD hg9 (λr e=>.inr (by cases e;omega))⟩,?_,by omega,hGl.1,?_,Aj (by omega) _ _ _ HB⟩
    .exact SliceC.keep (C:=SvcC) (Ce SvcC.flat HS hg9 (λb o e hn e2=>by have e3:=Option.some.inj e2;have:=rS HS e hn;omega)) SvcC.holds (Keeps.refl _ _) (by omega)
    .exact ho9.kept LikC.flat hg9 (λr e=>by cases e;omega)
   clear HO HV HZ HK HS HB;go_wp2_with(first|(refine qLr Oa HRV ?_)|(refine An rfl 35 _ _ rfl (w.heap.size+1) 0 (ffA x e1 q1 (some ⟨g2,0,none⟩) q2 (some ⟨G,0,none⟩) q3) rfl rfl HTZ Ea (by simp[Value.oneCell']) wf HE ?_));exact bodyPost_ret (Bi rfl _ _ (w.heap.size+1) (ffL x e1 q1 (some ⟨g2,0,none⟩) q2 (some ⟨G,0,none⟩) q3) _ rfl HRf underlying35 rfl Ea) rfl HF
  case pos =>
   obtain⟨g,hgk⟩:=gXe hlt;obtain⟨t,ht,htl⟩:=HIX.out k g hgk;have hpk:(Jn x gone)[k]?=some t:=by
    unfold Jn;rw[List.getElem?_map,hgk,Option.map_some,ht];rfl
   obtain⟨c,hc⟩:∃c,(atP ((Jn x gone).take k) ⟨#[]⟩ x.copies)[t]?=some c:=⟨(atP ((Jn x gone).take k) ⟨#[]⟩ x.copies)[t]'(by rw[Bz];exact htl),gE _⟩;obtain⟨gb,go,rfl,_,hgb,hgc⟩:=(NG.out.below StrC.holds HB nL).at hgk;obtain⟨r0,hgs⟩:=hgc;simp only[Nat.mul_one,Nat.add_zero]at r0;have HR0:=iH r0;clear r0 hgs hgk;have n3r:SliceC CpyC 12 bs wr (some ⟨G,0,none⟩) (woT x gone k).copies:=by
    have h9:=HO.out;rw[show Value.slice (some ⟨G,0,none⟩) x.copies.length q3=.slice (some ⟨G,0,none⟩) (atP ((Jn x gone).take k) ⟨#[]⟩ x.copies).length q3 by rw[Bz]]at h9;exact OwnN.copies h9 (aB HSZ) (by show(atP _ _ _).length<=_;rw[Bz];unfold maxLen;omega)
   have HN3:=iH n3r;clear n3r;go_upto_region 5 with fail;refine Hk (S:=(λwy=>Blk w1.heap.size (ffA x e1 q1 (some ⟨g2,0,none⟩) q2 (some ⟨G,0,none⟩) q3) 35 wy/\wy.cell? ⟨gb,go+k,none⟩=some (.string g))) 10 (by kernel_rfl) ⟨HV.out.drew,HR0⟩ (λhS=>?_);replace HO:=iH (HO.out.below LikC.holds (Below.refl _ _).drew);replace HV:=iH HV.out.drew;replace HZ:=iH HZ.out.drew;replace HK:=iH (HK.out.trans (Keeps.of_below (Below.refl wr.heap.size wr).drew nL _));replace HS:=iH (HS.out.below SvcC.holds (Below.refl _ _).drew nL);replace HN3:=iH (HN3.out.below CpyC.holds (Below.refl _ _).drew nL);replace HB:=iH HB.out.drew;replace hsr:w1.heap.size<wr.drew.heap.size:=hsr;replace hgb:gb<wr.drew.heap.size:=hgb;generalize wr.drew=wn at *;refine tv 0 ⟨some 15,_,_,_,_,none⟩ (.pointer (some ⟨w1.heap.size,3,none⟩)) rfl (by rfl) ?_ hS ?_
   .intro wy hy
    clear hy;go_simp
   refine tv 1 ⟨some 16,_,_,_,_,none⟩ (.slice (some ⟨G,0,none⟩) x.copies.length q3) rfl (by rfl) ?_ hS ?_
   .intro wy hy
    have h0:=Blk.cell hy.1 (o:=3) rfl;clear hy;go_simp
   refine tu 2 ⟨some 17,_,_,_,_,none⟩ (.agg (ffA x e1 q1 (some ⟨g2,0,none⟩) q2 (some ⟨G,0,none⟩) q3)) rfl (yieldsIf_load_mid (by rfl) _ _ rfl w1.heap.size (0) rfl (ffL x e1 q1 (some ⟨g2,0,none⟩) q2 (some ⟨G,0,none⟩) q3) _ (λ_ h=>h.1.rangeA) underlying35 rfl Ea) hS ?_;refine tv 3 ⟨some 18,_,_,_,_,none⟩ (.slice (some ⟨gb,go,none⟩) gone.length gc) rfl (by rfl) ?_ hS ?_
   .intro wy hy
    clear hy;go_simp
   refine tv 4 ⟨some 19,_,_,_,_,none⟩ (.int .i64 (k:Int)) rfl (by rfl) ?_ hS ?_
   .intro wy hy
    clear hy;go_simp
   refine tv 5 ⟨some 20,_,_,_,_,none⟩ (.pointer (some ⟨gb,go+k,none⟩)) rfl (by rfl) ?_ hS ?_
   .intro wy hy
    clear hy
    first|(go_simp;done)|(go_simp;omega)
   refine tv 6 ⟨some 21,_,_,_,_,none⟩ (.string g) rfl (by rfl) ?_ hS ?_
   .intro wy hy
    have h0:=hy.2;clear hy;go_simp
   refine ru1 7 ⟨some 22,_,_,_,_,none⟩ rfl (λKK hKK=>?_);go_simp;have hcl:=Il (woT x gone k) e1 q1 (some ⟨g2,0,none⟩) q2 (some ⟨G,0,none⟩) q3 bs g wn HN3 (by show(atP _ _ _).length<=_;rw[Bz];exact l3)
   (try unfold ffA at hcl);rw[show(woT x gone k).copies.length=x.copies.length from Bz _ _ _,show Ei (woT x gone k).copies g=(t:Int)from(kC (Nn _ _ _) g).trans ht]at hcl
   refine hcl.mono ?_;rintro e w3⟨rfl,hb3⟩;have hs3:wn.heap.size<=w3.heap.size:=hb3.size;replace HO:=iH (HO.out.below LikC.holds hb3);replace HZ:=qBk HZ hb3;replace HK:=iH (HK.out.trans (Keeps.of_below hb3 nL _));replace HS:=qSl SvcC.holds HS hb3;replace HB:=iH (HB.out.trans (hb3.mono (by have:=HB.out.size;omega)));replace HV:=qBk HV hb3;refine hKK.out _ _ ⟨HV,(hb3.cell (p:=⟨gb,go+k,none⟩) hgb).trans hS.2⟩ (λhS=>?_);clear hKK KK hb3 HN3 hcl;refine gM (i:=8) (oi:=⟨some 23,_,_,_,_,none⟩) (v:=.pointer (some ⟨G,t*12,none⟩)) rfl (by kernel_rfl) (Or.inl ⟨by rfl,?_⟩) hS ?_
   .intro wy hy
    clear hy
    first|(go_simp;done)|(go_simp;omega)
   simp only[pX];refine tv 9 ⟨some 24,_,_,_,_,none⟩ (.pointer (some ⟨G,t*12+11,none⟩)) rfl (by rfl) ?_ hS ?_
   .intro wy hy
    clear hy;go_simp
   have ho9:=HO.out;rw[show Value.slice (some ⟨G,0,none⟩) x.copies.length q3=.slice (some ⟨G,0,none⟩) (atP ((Jn x gone).take k) ⟨#[]⟩ x.copies).length q3 by rw[Bz]]at ho9;obtain⟨kz,fz⟩:=OwnN.atCell ho9 hc;refine Hs (rs:=[10]) (by kernel_rfl) (by simp) (AllReadyU.last (o:=⟨none,_,_,_,_,none⟩) rfl (λKK hKK=>?_));go_simp;clear kz fz;have HO4:Hid (Rk bs (w3.setCell ⟨G,t*12+11,none⟩ (.string ⟨#[]⟩)) (.slice (some ⟨G,0,none⟩) x.copies.length q3) (atP ((Jn x gone).take (k+1)) ⟨#[]⟩ x.copies)):=by
    have h9:=ho9.setAt hc ⟨#[]⟩;rw[eN hpk hc,Bz]at h9;exact h9
   have hg4:=Dq w3 ⟨G,t*12+11,none⟩ (.string ⟨#[]⟩);have HV4:=iH (HV.out.grown hg4 (λe=>absurd (Option.some.inj e) (by show ¬w1.heap.size=G;omega)));have HZ4:=iH (HZ.out.grown hg4 (λe=>absurd (Option.some.inj e) (by show ¬w.heap.size+1=G;omega)));have HK4:Hid (Keeps H wB (w3.setCell ⟨G,t*12+11,none⟩ (.string ⟨#[]⟩))):=HK.out.grownD hg4 (λr e=>.inl (by cases e;show wB.heap.size<=G;omega));have HS4:=iH (Ce SvcC.flat HS hg4 (λb o e _ e2=>absurd (Option.some.inj e2) (by cases e;show ¬g2=G;omega)));have HB4:Hid (Below w.heap.size w (w3.setCell ⟨G,t*12+11,none⟩ (.string ⟨#[]⟩))):=HB.out.setCell (show w.heap.size<=(⟨G,t*12+11,none⟩:Addr).block by show w.heap.size<=G;omega) _;have hs4:w3.heap.size<=(w3.setCell ⟨G,t*12+11,none⟩ (.string ⟨#[]⟩)).heap.size:=hg4.size;refine hKK.out _ _ (Mi (by kernel_rfl) ?_ _);clear hKK KK hS ho9 hg4 HO HV HZ HK HS HB;generalize w3.setCell ⟨G,t*12+11,none⟩ (.string ⟨#[]⟩)=w4 at *
   go_wp2
   go_roundw
   case rel=>exact⟨k+1,by omega,by go_num,by omega,HO4,HV4,HZ4,HK4,HS4,HB4⟩
   case measure=>simp[intOf];omega
open Go.WideMaps Go.Maps Tryz
def L3In(B:Nat)(x:Flt)(a1:OA)(c1:Nat)(a2:OA)(c2:Nat)(a3:OA)(c3:Nat)(y:Cpy)(a7:OA)(c7:Nat)(b:Brt)(am:OA)(cm:Nat)(w:World):Prop :=
 Blk B (ffA x a1 c1 a2 c2 a3 c3) 35 w/\Blk (B+1) (ccA y a7 c7) 49 w/\Blk (B+1+1) (bbA b am cm) 52 w
theorem L3In.below{B:Nat}{x:Flt}{a1:OA}{c1:Nat}{a2:OA}{c2:Nat}{a3:OA}{c3:Nat}{y:Cpy}{a7:OA}{c7:Nat}{b:Brt}{am:OA}{cm:Nat}{w w':World}(h:L3In B x a1 c1 a2 c2 a3 c3 y a7 c7 b am cm w)(hb:Below w.heap.size w w'):L3In B x a1 c1 a2 c2 a3 c3 y a7 c7 b am cm w' :=
 ⟨h.1.below hb h.1.lt,h.2.1.below hb h.2.1.lt,h.2.2.below hb h.2.2.lt⟩
theorem L3In.drew{B:Nat}{x:Flt}{a1:OA}{c1:Nat}{a2:OA}{c2:Nat}{a3:OA}{c3:Nat}{y:Cpy}{a7:OA}{c7:Nat}{b:Brt}{am:OA}{cm:Nat}{w:World}(h:L3In B x a1 c1 a2 c2 a3 c3 y a7 c7 b am cm w):L3In B x a1 c1 a2 c2 a3 c3 y a7 c7 b am cm w.drew:=h
theorem L3In.flt{B:Nat}{x:Flt}{a1:OA}{c1:Nat}{a2:OA}{c2:Nat}{a3:OA}{c3:Nat}{y:Cpy}{a7:OA}{c7:Nat}{b:Brt}{am:OA}{cm:Nat}{w:World}(h:L3In B x a1 c1 a2 c2 a3 c3 y a7 c7 b am cm w):FltIn B x a1 c1 a2 c2 a3 c3 w:=⟨h.1.cell rfl,h.1.cell rfl,h.1.cell rfl,h.1.cell rfl⟩
theorem L3In.of(x:Flt)(a1:OA)(c1:Nat)(a2:OA)(c2:Nat)(a3:OA)(c3:Nat)(y:Cpy)(a7:OA)(c7:Nat)(b:Brt)(am:OA)(cm:Nat)(w:World):L3In w.heap.size x a1 c1 a2 c2 a3 c3 y a7 c7 b am cm (((w.alloc (Obj.cells (ffA x a1 c1 a2 c2 a3 c3) 35)).alloc (Obj.cells (ccA y a7 c7) 49)).alloc (Obj.cells (bbA b am cm) 52))/\Below w.heap.size w (((w.alloc (Obj.cells (ffA x a1 c1 a2 c2 a3 c3) 35)).alloc (Obj.cells (ccA y a7 c7) 49)).alloc (Obj.cells (bbA b am cm) 52)):=by
 have e0:=Blk.alloc w (ffA x a1 c1 a2 c2 a3 c3) 35;have e1:Blk (w.heap.size+1) (ccA y a7 c7) 49 ((w.alloc (Obj.cells (ffA x a1 c1 a2 c2 a3 c3) 35)).alloc (Obj.cells (ccA y a7 c7) 49)):=by
  have h:=Blk.alloc (w.alloc (Obj.cells (ffA x a1 c1 a2 c2 a3 c3) 35)) (ccA y a7 c7) 49;simpa using h
 have e2:Blk (w.heap.size+1+1) (bbA b am cm) 52 (((w.alloc (Obj.cells (ffA x a1 c1 a2 c2 a3 c3) 35)).alloc (Obj.cells (ccA y a7 c7) 49)).alloc (Obj.cells (bbA b am cm) 52)):=by
  have h:=Blk.alloc ((w.alloc (Obj.cells (ffA x a1 c1 a2 c2 a3 c3) 35)).alloc (Obj.cells (ccA y a7 c7) 49)) (bbA b am cm) 52;simpa using h
 have b1:=(Below.refl _ (w.alloc (Obj.cells (ffA x a1 c1 a2 c2 a3 c3) 35))).alloc nL (Obj.cells (ccA y a7 c7) 49);have b2:=(Below.refl _ ((w.alloc (Obj.cells (ffA x a1 c1 a2 c2 a3 c3) 35)).alloc (Obj.cells (ccA y a7 c7) 49))).alloc nL (Obj.cells (bbA b am cm) 52);exact⟨⟨(e0.below b1 e0.lt).below b2 (e0.below b1 e0.lt).lt,e1.below b2 e1.lt,e2⟩,by go_grown⟩
def L3T(B:Nat)(x:Flt)(a1:OA)(c1:Nat)(a2:OA)(c2:Nat)(a3:OA)(c3:Nat)(y:Cpy)(b:Brt)(g:Nat)(c:Cpy)(w:World):Prop :=
 FltIn B x a1 c1 a2 c2 a3 c3 w/\w.cell? ⟨g,11,none⟩=some (.string c.at_)/\w.cell? ⟨g,8,none⟩=some (.int .i64 c.apart)/\w.cell? ⟨B+1,8,none⟩=some (.int .i64 y.apart)/\w.cell? ⟨B+1+1,1,none⟩=some (.string b.zone)
theorem L3In.t{B:Nat}{x:Flt}{a1:OA}{c1:Nat}{a2:OA}{c2:Nat}{a3:OA}{c3:Nat}{y:Cpy}{a7:OA}{c7:Nat}{b:Brt}{am:OA}{cm:Nat}{w:World}(h:L3In B x a1 c1 a2 c2 a3 c3 y a7 c7 b am cm w){g:Nat}{c:Cpy}(h1:w.cell? ⟨g,11,none⟩=some (.string c.at_))(h2:w.cell? ⟨g,8,none⟩=some (.int .i64 c.apart)):L3T B x a1 c1 a2 c2 a3 c3 y b g c w :=
 ⟨h.flt,h1,h2,h.2.1.cell rfl,h.2.2.cell rfl⟩
theorem Td{a c:Int}{hb hz:Bool}(h1:¬(hb=true/\(a≠0\/c≠0)))(h2:¬(hz=true/\(a=2\/c=2))):¬Ls a c hb hz=true:=by
 unfold Ls;simp only[Bool.or_eq_true,Bool.and_eq_true,decide_eq_true_eq];rintro(h|h)
 .exact h1 h
 .exact h2 h
theorem Yc{a c:Int}{hb hz:Bool}(h:hb=true)(h1:a≠0\/c≠0):Ls a c hb hz=true:=by
 unfold Ls;simp only[Bool.or_eq_true,Bool.and_eq_true,decide_eq_true_eq];exact Or.inl ⟨h,h1⟩
theorem Yw{a c:Int}{hb hz:Bool}(h:hz=true)(h1:a=2\/c=2):Ls a c hb hz=true:=by
 unfold Ls;simp only[Bool.or_eq_true,Bool.and_eq_true,decide_eq_true_eq];exact Or.inr ⟨h,h1⟩
theorem Jh{s:BA}(h:s=⟨#[]⟩):s.toList.isEmpty=true:=by rw[Bj h];rfl
theorem Gj{s:BA}(h:¬s=⟨#[]⟩):s.toList.isEmpty=false:=by
 cases e:s.toList with
 |nil=>exact absurd e (Ay h)
 |cons a l=>rfl
theorem Wi(lo ci:Nat)(x:Flt)(a1:OA)(c1:Nat)(a2:OA)(c2:Nat)(a3:OA)(c3:Nat)(y:Cpy)(a7:OA)(c7:Nat)(b:Brt)(am:OA)(cm:Nat)(w:World)(n1:SliceC BrtC 6 lo w a1 x.berths)(n3:SliceC CpyC 12 lo w a3 x.copies)(hci:x.copies[ci]?=some y)(hv:Au x=true) :
  Calls prog 70 #[.agg (ffA x a1 c1 a2 c2 a3 c3),.agg (ccA y a7 c7),.agg (bbA b am cm)] w (Rt (.bool (Gn x ci y b)) w):=by
 have N1:=iH n1;have N3:=iH n3;have HCI:=iH hci;obtain⟨l2,l3,_,hcN,_,_⟩:=Aw hv;have l1:=(Bb hv).1;have HCN:=iH hcN;clear n1 n3 hci hcN;clear hv;obtain⟨CY,hCY⟩:∃CY:Array Value,CY=(ccA y a7 c7):=⟨_,rfl⟩;have HCY:=iH hCY;rw[<-hCY];clear hCY;go_enter func70,ntmps70;go_wp2_with fail;have HI0:Hid (L3In w.heap.size x a1 c1 a2 c2 a3 c3 y a7 c7 b am cm (((w.alloc (Obj.cells (ffA x a1 c1 a2 c2 a3 c3) 35)).alloc (Obj.cells CY 49)).alloc (Obj.cells (bbA b am cm) 52))):=by
  rw[HCY.out];exact(L3In.of x a1 c1 a2 c2 a3 c3 y a7 c7 b am cm w).1
 have HB0:Hid (Below w.heap.size w (((w.alloc (Obj.cells (ffA x a1 c1 a2 c2 a3 c3) 35)).alloc (Obj.cells CY 49)).alloc (Obj.cells (bbA b am cm) 52))):=by
  rw[HCY.out];exact(L3In.of x a1 c1 a2 c2 a3 c3 y a7 c7 b am cm w).2
 generalize(((w.alloc (Obj.cells (ffA x a1 c1 a2 c2 a3 c3) 35)).alloc (Obj.cells CY 49)).alloc (Obj.cells (bbA b am cm) 52))=w0 at *;go_loopw [7] (λi wr=>∃k:Nat,k<=x.copies.length/\i=.int .i64 k/\Hid (Cd (Nw x ci y b) k=false)/\Hid (L3In w.heap.size x a1 c1 a2 c2 a3 c3 y a7 c7 b am cm wr)/\Hid (Below w.heap.size w wr)) (λi _=>x.copies.length-(intOf i).toNat)
 case atStart=>exact⟨0,zL,rfl,rfl,HI0,HB0⟩
 case round =>
  clear HI0 HB0;obtain⟨k,hk,rfl,hT,hI,hB⟩:=hrel;have p3:wr.cell? ⟨w.heap.size,3,none⟩=some (.slice a3 x.copies.length c3):=hI.out.1.cell rfl;by_cases hlt:k<x.copies.length
  .skip
   obtain⟨c,hck⟩:=gXe hlt;obtain⟨cb,co,rfl,_,_,hc⟩:=(N3.out.below CpyC.holds hB.out nL).at hck;obtain⟨a8,c8,q0,q1,q2,q3,q4,q5,q6,q7,q8,q9,q10,q11,z0,z1,z6,z9,z10,z11,z7⟩:=hc;simp only[Nat.add_zero]at q0 q1 q2 q3 q4 q5 q6 q7 q8 q9 q10 q11;have HRA:Hid (wr.rangeAt cb (co+k*12) (ccL c a8 c8)):=Aa q0 (Aa q1 (Aa q2 (Aa q3 (Aa q4 (Aa q5 (Aa q6 (Aa q7 (Aa q8 (Aa q9 (Aa q10 (Aa q11 (Ao _ _ _))))))))))));have HX:=iH hck;have HSM:Hid (k=ci↔c.name=y.name):=by
    constructor
    .rintro rfl
     have:=HCI.out;rw[hck]at this;cases this
     rfl
    .intro e
     exact HCN.out.inj (Cl (f:=(·.name)) hck) (by rw[Cl (f:=(·.name)) HCI.out,e])
   clear hck q0 q1 q2 q3 q4 q5 q6 q7 q8 q9 q10 q11 z0 z1 z6 z7 z9 z10 z11;go_upto_region 5 with(first|(refine qLr Jg HRA ?_));have hbx:=(Below.refl _ wr).alloc nL (Obj.cells (ccA c a8 c8) 49);have HX4:=iH (Blk.alloc wr (ccA c a8 c8) 49);have HI4:=iH (hI.out.below hbx);have HB4:=qTH hB hbx;have hbk:w.heap.size+1+1<wr.heap.size:=hI.out.2.2.lt;clear HRA hbx hI hB p3;generalize(wr.alloc (Obj.cells (ccA c a8 c8) 49))=w4 at *;have y0:w4.cell? ⟨w.heap.size+1,0,none⟩=some (.string y.name):=HI4.out.2.1.cell rfl;have y1:w4.cell? ⟨w.heap.size+1,1,none⟩=some (.string y.service):=HI4.out.2.1.cell rfl;have y8:w4.cell? ⟨w.heap.size+1,8,none⟩=some (.int .i64 y.apart):=HI4.out.2.1.cell rfl;have y9:w4.cell? ⟨w.heap.size+1,9,none⟩=some (.string y.near):=HI4.out.2.1.cell rfl;have zb0:w4.cell? ⟨w.heap.size+1+1,0,none⟩=some (.string b.name):=HI4.out.2.2.cell rfl;have g0:w4.cell? ⟨wr.heap.size,0,none⟩=some (.string c.name):=HX4.out.cell rfl;have g1:w4.cell? ⟨wr.heap.size,1,none⟩=some (.string c.service):=HX4.out.cell rfl;have g4:w4.cell? ⟨wr.heap.size,4,none⟩=some (.int .i64 c.room):=HX4.out.cell rfl;have g5:w4.cell? ⟨wr.heap.size,5,none⟩=some (.int .i64 c.hold):=HX4.out.cell rfl;have g8:w4.cell? ⟨wr.heap.size,8,none⟩=some (.int .i64 c.apart):=HX4.out.cell rfl;have g11:w4.cell? ⟨wr.heap.size,11,none⟩=some (.string c.at_):=HX4.out.cell rfl;by_cases hnm:c.name=y.name
   .have htn:=Br hnm
    have hkc:=HSM.out.2 hnm;have HTE:Hid (Cd (Nw x ci y b) (k+1)=false):=(Bg (Jm HX (λh=>h.1 hkc))).trans hT.out;clear hnm hkc
    go_wp2
    go_roundw
    case rel=>first|exact⟨k+1,by omega,by go_num,HTE,HI4,HB4⟩|((repeat apply Exists.intro);exact⟨⟨k+1,by omega,by go_num,HTE,HI4,HB4⟩,rfl⟩)
    case measure=>simp[intOf];omega
   have htn:=Bu hnm;have hkc:k≠ci:=λh=>hnm (HSM.out.1 h)
   clear hnm;by_cases hsv:c.service=y.service
   rotate_left
   .have hts:=Bu hsv
    have HTE:Hid (Cd (Nw x ci y b) (k+1)=false):=(Bg (Jm HX (λh=>hsv h.2.1))).trans hT.out;clear hsv hkc
    go_wp2
    go_roundw
    case rel=>first|exact⟨k+1,by omega,by go_num,HTE,HI4,HB4⟩|((repeat apply Exists.intro);exact⟨⟨k+1,by omega,by go_num,HTE,HI4,HB4⟩,rfl⟩)
    case measure=>simp[intOf];omega
   have hts:=Br hsv;have HSV:=iH hsv;clear hsv;by_cases hat:c.at_=⟨#[]⟩
   .have hte:=Bj hat
    have hte2:=Jh hat;have HTE:Hid (Cd (Nw x ci y b) (k+1)=false):=(Bg (Jm HX (λh=>h.2.2.1 hat))).trans hT.out;clear hat hkc
    go_wp2
    go_roundw
    case rel=>first|exact⟨k+1,by omega,by go_num,HTE,HI4,HB4⟩|((repeat apply Exists.intro);exact⟨⟨k+1,by omega,by go_num,HTE,HI4,HB4⟩,rfl⟩)
    case measure=>simp[intOf];omega
   have hte:=Ay hat;have hte2:=Gj hat;have HAT:=iH hat;clear hat;by_cases hab:c.at_=b.name
   .have hta:=Br hab
    have HAB:=iH hab;clear hab;by_cases hca:c.apart=0
    .by_cases hya:y.apart=0
     .have HNH:Hid (¬(decide (c.at_=b.name)=true/\(c.apart≠0\/y.apart≠0))):=λk=>k.2.elim (λh=>h hca) (λh=>h hya)
      obtain⟨zz,hzz⟩:∃zz,((Dc x.berths c.at_).toList==b.zone.toList)=zz:=⟨_,rfl⟩;go_upto_region 8 with fail;clear y0 y1 y8 y9 zb0 g0 g1 g4 g5 g8 g11;refine wp_region_held_drew (S:=L3T w.heap.size x a1 c1 a2 c2 (some ⟨cb,co,none⟩) c3 y b wr.heap.size c) (by kernel_rfl) (HI4.out.drew.t (HX4.out.drew.cell rfl) (HX4.out.drew.cell rfl)) (λhS=>?_);refine x2 0 53 (.agg (ffA x a1 c1 a2 c2 (some ⟨cb,co,none⟩) c3)) ?_;refine x2 1 54 (.pointer (some ⟨wr.heap.size,11,none⟩)) ?_;refine x2 2 55 (.string c.at_) ?_;refine x2 4 57 (.pointer (some ⟨w.heap.size+1+1,1,none⟩)) ?_;refine x2 5 58 (.string b.zone) ?_;refine rd1 3 ⟨some 56,_,_,_,_,none⟩ rfl (λK hK=>?_);go_simp;refine(Ov x a1 c1 a2 c2 (some ⟨cb,co,none⟩) c3 lo c.at_ _ (N1.out.below BrtC.holds HB4.out.drew nL) (by omega)).mono ?_;rintro e w7⟨rfl,hb7⟩;have hd7:Below w4.heap.size w4 w7:=(Below.refl _ w4).drew.trans hb7;have HB7:=qTH HB4 hd7;have HI7:=iH (HI4.out.below hd7);have HX7:=qBk HX4 hd7;refine hK.out _ _ (HI7.out.t (HX7.out.cell rfl) (HX7.out.cell rfl)) (λhS=>?_);clear hK K hb7 hd7;refine x2 6 59 (.bool zz) ?_;refine x2 7 60 (.bool zz) ?_
      cases zz with
      |false =>
       have hzo:¬Dc x.berths c.at_=b.zone:=λh=>by rw[Br h]at hzz;cases hzz
       refine ts 8 61 ?_;refine ts 9 62 ?_;refine ts 10 63 ?_;refine ts 11 64 ?_;refine ts 12 65 ?_;refine ts 13 66 ?_;refine ts 14 67 ?_;refine ts 15 68 ?_;refine x2 16 69 (.bool false) ?_;refine td ?_;clear hS;have HTE:Hid (Cd (Nw x ci y b) (k+1)=false):=(Bg (Jm HX (λh=>Td HNH (λk=>hzo (of_decide_eq_true k.1)) h.2.2.2))).trans hT.out;clear hzo hzz
       go_wp2
       go_roundw
       case rel=>first|exact⟨k+1,by omega,by go_num,HTE,HI7,HB7⟩|((repeat apply Exists.intro);exact⟨⟨k+1,by omega,by go_num,HTE,HI7,HB7⟩,rfl⟩)
       case measure=>simp[intOf];omega
      | true =>
       have hzo:Dc x.berths c.at_=b.zone:=Classical.byContradiction λh=>by rw[Bu h]at hzz;cases hzz
       have HZO:=iH hzo;clear hzo hzz;refine x2 8 61 (.pointer (some ⟨wr.heap.size,8,none⟩)) ?_;refine x2 9 62 (.int .i64 c.apart) ?_;have hc2:¬c.apart=2:=by omega
       have hy2:¬y.apart=2:=by omega
       refine ty 10 ⟨some 63,_,_,_,_,some (7,true)⟩ (.bool false) ?_ ?_
       .intro wy hy
        obtain⟨⟨y0,y1,y2,y3⟩,u1,u2,u3,u4⟩:=hy;have e2:¬c.apart=2:=hc2;go_simp
       refine x2 11 64 (.bool false) ?_;refine x2 12 65 (.pointer (some ⟨w.heap.size+1,8,none⟩)) ?_;refine x2 13 66 (.int .i64 y.apart) ?_;refine ty 14 ⟨some 67,_,_,_,_,some (11,false)⟩ (.bool false) ?_ ?_
       .intro wy hy
        obtain⟨⟨y0,y1,y2,y3⟩,u1,u2,u3,u4⟩:=hy;have e3:¬y.apart=2:=hy2;go_simp
       refine x2 15 68 (.bool false) ?_;refine x2 16 69 (.bool false) ?_;refine td ?_;clear hS;have HTE:Hid (Cd (Nw x ci y b) (k+1)=false):=(Bg (Jm HX (λh=>Td HNH (λk=>k.2.elim hc2 hy2) h.2.2.2))).trans hT.out;skip
       go_wp2
       go_roundw
       case rel=>first|exact⟨k+1,by omega,by go_num,HTE,HI7,HB7⟩|((repeat apply Exists.intro);exact⟨⟨k+1,by omega,by go_num,HTE,HI7,HB7⟩,rfl⟩)
       case measure=>simp[intOf];omega
     .skip
      have HTE:Hid (Gn x ci y b=true):=Et _ (show k+1<=x.copies.length by omega) (Fb (Qc HX hkc HSV HAT (Yc (decide_eq_true HAB) (Or.inr hya))));skip
      go_wp2
      go_ret;exact⟨Ab HTE.out.symm,HB4⟩
    .skip
     have HTE:Hid (Gn x ci y b=true):=Et _ (show k+1<=x.copies.length by omega) (Fb (Qc HX hkc HSV HAT (Yc (decide_eq_true HAB) (Or.inl hca))));skip
     go_wp2
     go_ret;exact⟨Ab HTE.out.symm,HB4⟩
   .have hta:=Bu hab
    have HNH:Hid (¬(decide (c.at_=b.name)=true/\(c.apart≠0\/y.apart≠0))):=λk=>hab (of_decide_eq_true k.1)
    clear hab;obtain⟨zz,hzz⟩:∃zz,((Dc x.berths c.at_).toList==b.zone.toList)=zz:=⟨_,rfl⟩;go_upto_region 8 with fail;clear y0 y1 y8 y9 zb0 g0 g1 g4 g5 g8 g11;refine wp_region_held_drew (S:=L3T w.heap.size x a1 c1 a2 c2 (some ⟨cb,co,none⟩) c3 y b wr.heap.size c) (by kernel_rfl) (HI4.out.drew.t (HX4.out.drew.cell rfl) (HX4.out.drew.cell rfl)) (λhS=>?_);refine x2 0 53 (.agg (ffA x a1 c1 a2 c2 (some ⟨cb,co,none⟩) c3)) ?_;refine x2 1 54 (.pointer (some ⟨wr.heap.size,11,none⟩)) ?_;refine x2 2 55 (.string c.at_) ?_;refine x2 4 57 (.pointer (some ⟨w.heap.size+1+1,1,none⟩)) ?_;refine x2 5 58 (.string b.zone) ?_;refine rd1 3 ⟨some 56,_,_,_,_,none⟩ rfl (λK hK=>?_);go_simp;refine(Ov x a1 c1 a2 c2 (some ⟨cb,co,none⟩) c3 lo c.at_ _ (N1.out.below BrtC.holds HB4.out.drew nL) (by omega)).mono ?_;rintro e w7⟨rfl,hb7⟩;have hd7:Below w4.heap.size w4 w7:=(Below.refl _ w4).drew.trans hb7;have HB7:=qTH HB4 hd7;have HI7:=iH (HI4.out.below hd7);have HX7:=qBk HX4 hd7;refine hK.out _ _ (HI7.out.t (HX7.out.cell rfl) (HX7.out.cell rfl)) (λhS=>?_);clear hK K hb7 hd7;refine x2 6 59 (.bool zz) ?_;refine x2 7 60 (.bool zz) ?_
    cases zz with
    |false =>
     have hzo:¬Dc x.berths c.at_=b.zone:=λh=>by rw[Br h]at hzz;cases hzz
     refine ts 8 61 ?_;refine ts 9 62 ?_;refine ts 10 63 ?_;refine ts 11 64 ?_;refine ts 12 65 ?_;refine ts 13 66 ?_;refine ts 14 67 ?_;refine ts 15 68 ?_;refine x2 16 69 (.bool false) ?_;refine td ?_;clear hS;have HTE:Hid (Cd (Nw x ci y b) (k+1)=false):=(Bg (Jm HX (λh=>Td HNH (λk=>hzo (of_decide_eq_true k.1)) h.2.2.2))).trans hT.out;clear hzo hzz
     go_wp2
     go_roundw
     case rel=>first|exact⟨k+1,by omega,by go_num,HTE,HI7,HB7⟩|((repeat apply Exists.intro);exact⟨⟨k+1,by omega,by go_num,HTE,HI7,HB7⟩,rfl⟩)
     case measure=>simp[intOf];omega
    | true =>
     have hzo:Dc x.berths c.at_=b.zone:=Classical.byContradiction λh=>by rw[Bu h]at hzz;cases hzz
     have HZO:=iH hzo;clear hzo hzz;refine x2 8 61 (.pointer (some ⟨wr.heap.size,8,none⟩)) ?_;refine x2 9 62 (.int .i64 c.apart) ?_;by_cases hc2:c.apart=2
     .skip
      refine ty 10 ⟨some 63,_,_,_,_,some (7,true)⟩ (.bool true) ?_ ?_
      .intro wy hy
       obtain⟨⟨y0,y1,y2,y3⟩,u1,u2,u3,u4⟩:=hy;have e2:=hc2;go_simp
      refine x2 11 64 (.bool true) ?_;refine ts 12 65 ?_;refine ts 13 66 ?_;refine ts 14 67 ?_;refine x2 15 68 (.bool true) ?_;refine x2 16 69 (.bool true) ?_;refine td ?_;clear hS;have HTE:Hid (Gn x ci y b=true):=Et _ (show k+1<=x.copies.length by omega) (Fb (Qc HX hkc HSV HAT (Yw (decide_eq_true HZO) (Or.inl hc2))));skip
      go_wp2
      go_ret;exact⟨Ab HTE.out.symm,HB7⟩
     .skip
      refine ty 10 ⟨some 63,_,_,_,_,some (7,true)⟩ (.bool false) ?_ ?_
      .intro wy hy
       obtain⟨⟨y0,y1,y2,y3⟩,u1,u2,u3,u4⟩:=hy;have e2:¬c.apart=2:=hc2;go_simp
      refine x2 11 64 (.bool false) ?_;refine x2 12 65 (.pointer (some ⟨w.heap.size+1,8,none⟩)) ?_;refine x2 13 66 (.int .i64 y.apart) ?_;by_cases hy2:y.apart=2
      .skip
       refine ty 14 ⟨some 67,_,_,_,_,some (11,false)⟩ (.bool true) ?_ ?_
       .intro wy hy
        obtain⟨⟨y0,y1,y2,y3⟩,u1,u2,u3,u4⟩:=hy;have e3:y.apart=2:=hy2;go_simp
       refine x2 15 68 (.bool true) ?_;refine x2 16 69 (.bool true) ?_;refine td ?_;clear hS;have HTE:Hid (Gn x ci y b=true):=Et _ (show k+1<=x.copies.length by omega) (Fb (Qc HX hkc HSV HAT (Yw (decide_eq_true HZO) (Or.inr hy2))));skip
       go_wp2
       go_ret;exact⟨Ab HTE.out.symm,HB7⟩
      .skip
       refine ty 14 ⟨some 67,_,_,_,_,some (11,false)⟩ (.bool false) ?_ ?_
       .intro wy hy
        obtain⟨⟨y0,y1,y2,y3⟩,u1,u2,u3,u4⟩:=hy;have e3:¬y.apart=2:=hy2;go_simp
       refine x2 15 68 (.bool false) ?_;refine x2 16 69 (.bool false) ?_;refine td ?_;clear hS;have HTE:Hid (Cd (Nw x ci y b) (k+1)=false):=(Bg (Jm HX (λh=>Td HNH (λk=>k.2.elim hc2 hy2) h.2.2.2))).trans hT.out;skip
       go_wp2
       go_roundw
       case rel=>first|exact⟨k+1,by omega,by go_num,HTE,HI7,HB7⟩|((repeat apply Exists.intro);exact⟨⟨k+1,by omega,by go_num,HTE,HI7,HB7⟩,rfl⟩)
       case measure=>simp[intOf];omega
  .have hke:k=x.copies.length:=by omega
   subst hke;have HTE:Hid (Gn x ci y b=false):=hT.out
   go_wp2
   go_ret;exact⟨Ab HTE.out.symm,hB.out⟩
end Go.Proofs.YtpidfnfilnkhkaaGreat
