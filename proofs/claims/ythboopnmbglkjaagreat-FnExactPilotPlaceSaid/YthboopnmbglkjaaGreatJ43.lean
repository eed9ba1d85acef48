import Derived.Test.YthboopnmbglkjaaGreatJ42
import Derived.Test.YthboopnmbglkjaaGreatHqs
set_option maxHeartbeats 8000000
set_option maxRecDepth 100000
namespace Go.Proofs.YthboopnmbglkjaaGreat
open Go.RowKit Go.WideMaps Go.Maps Tryz
theorem Ku{s:BA}(h:P.nameOk s=true):s.size<=20:=by
 unfold P.nameOk at h;simp only[Bool.and_eq_true,decide_eq_true_eq]at h;omega
def plC(o:Option (Nat×Brt)):Nat:=match o with
 |none=>0
 |some z=>z.1
theorem kR(W0:World)(lo p m1 m2 m3 m4 ci n0:Nat)(x:Flt)(a1:OA)(c1:Nat)(a2:OA)(c2:Nat)(a3:OA)(c3:Nat)(y:Cpy)(w:World)(hW:Keeps lo W0 w)(hF:FoundM p m1 m2 m3 m4 n0 x a1 c1 a2 c2 a3 c3 w)(hn0:n0<=7000000)(n1:sB lo W0 a1 x.berths)(n3:sC lo W0 a3 x.copies)(hv:Bb x=true)(hy:x.copies[ci]?=some y) :
  Calls prog 69 #[pP p 0,X ((ci:Nat):Int)] w λe w'=>e=.returned (.tuple #[X ((plC (chT x ci y x.berths.length):Nat):Int),.bool (chT x ci y x.berths.length).isSome])/\But m4 w.heap.size w w'/\MemoAt m4 (n0+13*x.berths.length) x.berths w'/\(x.berths=[]->bW w w'):=by
 have N1:=iH n1;have N3:=iH n3;have HV:=iH hv;have HYC:=iH hy;have HF:=iH hF;have hm4w:=hF.memo.lt;have hb1:bW w (w.alloc (Obj.cells #[pP p 0] 59)):=by go_grown
 have HB1:=iH (Blk.alloc w #[pP p 0] 59);clear n1 n3 hv hy hF;go_enter func69,ntmps69;go_upto_region 1 with fail;generalize w.alloc (Obj.cells #[pP p 0] 59)=w1 at *;have k0:w1.cell? (E w.heap.size 0)=some (pP p 0):=HB1.out.cell rfl;go_wp2_with fail;refine(lD p _ _).mono ?_;rintro e w2⟨rfl,hw2⟩;have hb2:bW w1 w2:=by rw[hw2];exact((Below.refl _ w1).alloc nL _).alloc (by simp) _
 have HX2:Hid (Blk w1.heap.size #[pP p 0] 59 w2):=by
  show Blk _ _ _ _
  rw[hw2];exact(Blk.alloc w1 _ _).below ((Below.refl _ _).alloc nL _) (Blk.alloc w1 _ _).lt
 have HI2:Hid (Blk (w1.heap.size+1) #[X ((ci:Nat):Int)] 3 w2):=by
  rw[hw2];have h:=Blk.alloc (w1.alloc (Obj.cells #[pP p 0] 59)) #[X ((ci:Nat):Int)] 3;show Blk _ _ _ _
  simpa using h
 have HB2:=qBk HB1 hb2;have hB2:=qTr hb1 hb2;have hw12:=hb1.size;clear hw2 hb2 HB1 k0;go_wp2_with fail;refine(nH W0 lo p m1 m2 m3 m4 ci n0 x a1 c1 a2 c2 a3 c3 y w1.heap.size (w1.heap.size+1) w.heap.size w2 (hW.trans (Keeps.of_below hB2 nL lo)) (HF.out.below hB2) hn0 N1 N3 HV HYC HX2 HI2 (by omega) (by omega) (HB2.out.cell rfl) (by omega)).mono ?_;rintro e w3⟨rfl,hb3,hmm,hbe⟩;have HBE:Hid (x.berths=[]->bW w w3):=λe=>hB2.trans ((hbe e).mono hB2.size)
 clear hbe;have hB3:But m4 w.heap.size w w3:=(But.of_below hB2).trans (hb3.mono hB2.size);have hm4w3:m4<w3.heap.size:=hmm.lt;have HMM:=iH hmm;clear hmm hb3 HX2 HI2 HB2 hB2 hb1
 cases hO:chT x ci y x.berths.length with
 |none =>
  have HE:Hid (But m4 w.heap.size w (w3.alloc (Obj.cells #[X 0,X 0,X 0,X 0,X 0] 162))):=hB3.trans (But.of_below ((Below.refl _ w3).alloc hB3.size _));simp only[bV,Option.isSome_none];have HO:=iH hO;clear hO;go_wp2_with fail;exact bodyPost_ret (results_tmp2 rfl _ _ _) rfl ⟨by rw[HO.out];rfl,HE,HMM.out.below (B:=w3.heap.size) ((Below.refl _ w3).alloc nL _) hm4w3,λe=>(HBE e).alloc (HBE e).size _⟩
 |some z =>
  have HE:Hid (But m4 w.heap.size w (w3.alloc (Obj.cells (oV x ci y z) 162))):=hB3.trans (But.of_below ((Below.refl _ w3).alloc hB3.size _));simp only[bV,Option.isSome_some];have HO:=iH hO;clear hO;go_wp2_with fail;exact bodyPost_ret (results_tmp2 rfl _ _ _) rfl ⟨by rw[HO.out];rfl,HE,HMM.out.below (B:=w3.heap.size) ((Below.refl _ w3).alloc nL _) hm4w3,λe=>(HBE e).alloc (HBE e).size _⟩
def spV(x:Flt)(o:Option (Nat×(Nat×Brt))):Value:=match o with
 |none=>.agg #[Y ⟨#[]⟩,Y ⟨#[]⟩,.slice none 0 0]
 |some q=>.agg #[Y (nmQ x q.1),Y q.2.2.name,.slice none 0 0]
theorem Sv(x:Flt)(a1:OA)(c1:Nat)(a2:OA)(c2:Nat)(a3:OA)(c3 lo:Nat)(w:World)(n1:sB lo w a1 x.berths)(n3:sC lo w a3 x.copies)(hv:Bb x=true) :
  Calls prog 19 #[.agg (ffA x a1 c1 a2 c2 a3 c3)] w (Rt (.tuple #[spV x (Fv x),.bool (Fv x).isSome]) w):=by
 obtain⟨w0,hw0,HX,HZ,HB⟩:=alT w (ffA x a1 c1 a2 c2 a3 c3) #[Y ⟨#[]⟩,Y ⟨#[]⟩,.slice none 0 0] 32 49;have N1:=iH n1;have N3:=iH n3;have HV:=iH hv;obtain⟨_,h60,_,hasc,_,_⟩:=Bh hv;have HASC:=iH hasc;clear n1 n3 hv hasc;have HNM:Hid (∀(i:Nat)(c:Cpy),x.copies[i]?=some c->c.name.size<=20):=λi c h=>Ku (Rb HV h)
 have HQN:Hid (∀s∈(qTo x x.copies.length).map (nmQ x),s.size<=20):=λs hs=>by
  obtain⟨i,hi,rfl⟩:=List.mem_map.1 hs;have hil:=Sd hi;rw[Vj (gE hil)];exact HNM.out i _ (gE hil)
 go_enter func19,ntmps19;go_upto_region 1 with fail;rw[<-hw0];clear hw0;have hs0:w.heap.size+1<w0.heap.size:=HZ.out.lt;have HRX:=iH HX.out.rangeA;go_wp2_with(first|(refine qLr Mc HRX ?_));clear HRX;refine(fD x a1 c1 a2 c2 a3 c3 lo w0 (N3.out.below CpyC.holds HB nL) h60 HQN).mono ?_;rintro e w1⟨qa,qc,rfl,hqs,hb1⟩;have hs1:=hb1.size;replace HX:=qBk HX hb1;replace HZ:=qBk HZ hb1;replace HB:=qTH HB hb1;have HQS:=iH hqs;have HQL:Hid (((qTo x x.copies.length).map (nmQ x)).length=(qTo x x.copies.length).length):=List.length_map _;have hql:(qTo x x.copies.length).length<=60:=by
  have h1:=(Ih x x.copies.length).length_eq;have h2:=Hg x x.copies.length;omega
 clear hqs hb1 HQN;rw[HQL.out];go_upto_region 3 with fail;go_loopw [5] (λi wr=>∃k:Nat,k<=(qTo x x.copies.length).length/\i=X ((k:Nat):Int)/\Hid (∀c∈(qTo x x.copies.length).take k,chF x c=none)/\Hid (bW w1 wr)) (λi _=>(qTo x x.copies.length).length-(intOf i).toNat)
 case atStart=>exact⟨0,zL,rfl,(λc hc=>by rw[List.take_zero]at hc;cases hc),Below.refl _ _⟩
 obtain⟨k,hk,rfl,HN,HW⟩:=hrel;have hsr:=HW.out.size;have HXr:=iH (HX.out.below HW (by omega));have HZr:=iH (HZ.out.below HW (by omega));have HBr:=iH (HB.out.trans (HW.out.mono (by omega)));by_cases hlt:k<(qTo x x.copies.length).length
 case neg =>
  have HFQ:Hid (Fv x=none):=Ru λc hc=>HN.out c (by rw[List.take_of_length_le (by omega)];exact hc)
  have HTZ:=iH HZr.out.there;obtain⟨wf,HE⟩:∃wf,Hid (wf=wr.setCells (w.heap.size+1) 0 [Y ⟨#[]⟩,Y ⟨#[]⟩,.slice none 0 0]):=⟨_,rfl⟩;have HRf:Hid (wf.rangeAt (w.heap.size+1) 0 [Y ⟨#[]⟩,Y ⟨#[]⟩,.slice none 0 0]):=by
   show World.rangeAt _ _ _ _
   rw[HE.out];exact World.rangeAt_setCells_same wr (w.heap.size+1) 0 _ HTZ
  have HBf:Hid (bW w wf):=by
   show Below _ _ _
   rw[HE.out];exact Ae (by omega) _ _ _ HBr
  have hki:((qTo x x.copies.length).length:Int)<=((k:Nat):Int):=by omega
  go_wp2_with(first|(refine Ai rfl 49 _ _ rfl (w.heap.size+1) 0 #[Y ⟨#[]⟩,Y ⟨#[]⟩,.slice none 0 0] rfl rfl HTZ Hp (by simp[Value.oneCell']) wf HE ?_));refine bodyPost_ret (fC rfl _ _ (w.heap.size+1) [Y ⟨#[]⟩,Y ⟨#[]⟩,.slice none 0 0] _ rfl HRf underlying49 rfl Hp) rfl ⟨?_,HBf⟩;rw[HFQ.out];rfl
 obtain⟨ci,hci⟩:∃c,(qTo x x.copies.length)[k]?=some c:=⟨_,gE hlt⟩;have hcl:ci<x.copies.length:=Sd (List.mem_of_getElem? hci);obtain⟨y,hy⟩:∃y,x.copies[ci]?=some y:=⟨_,gE hcl⟩;have hnk:((qTo x x.copies.length).map (nmQ x))[k]?=some y.name:=by rw[List.getElem?_map,hci,Option.map_some,Vj hy]
 obtain⟨gb,go,rfl,_,hgb,hgc⟩:=HQS.out.at hnk;obtain⟨r0,hgs⟩:=hgc;simp only[Nat.mul_one,Nat.add_zero]at r0;obtain⟨cb,co,rfl,_,hcb,hcc⟩:=N3.out.at hy;obtain⟨a7,c7,hrg,h7⟩:=lK hcc;have HR0:=iH r0;have HRG:=iH hrg;have H7:=iH h7;have HCI:=iH hci;have HY:=iH hy;have HSEL:Hid (y.select.size<=maxLen):=(kL N3 y (List.mem_of_getElem? hy)).2.2.1;have HIX:Hid (Qq x.copies y.name=((ci:Nat):Int)):=by
  refine Tu hy rfl λj b hj hb e=>?_
  have h9:=HASC.out.inj (i:=j) (j:=ci) (s:=y.name) (by show(x.copies.map (·.name))[j]?=_;rw[List.getElem?_map,hb,Option.map_some,e]) (by show(x.copies.map (·.name))[ci]?=_;rw[List.getElem?_map,hy];rfl);omega
 have hki:((k:Nat):Int)<((qTo x x.copies.length).length:Int):=by omega
 clear hci hy hnk r0 hgs hcc hrg h7;go_upto_region 5 with fail;refine wp_region_held_drew (S:=(λwy=>wy.rangeAt w.heap.size 0 (ffL x a1 c1 a2 c2 (O cb co) c3)/\wy.cell? (E gb (go+k))=some (Y y.name)/\wy.rangeAt cb (co+ci*12) (ccL y a7 c7)/\bW w1 wy)) (by kernel_rfl) ⟨Bk HXr.out.rangeA,(HW.out.cell (p:=(E gb (go+k))) hgb).trans HR0,Bk (Ac HRG HBr hcb),HW.out.drew⟩ (λhS=>?_);clear HXr HZr HBr HW hsr;generalize wr.drew=wn at *;refine tm 0 15 w.heap.size 0 (ffL x a1 c1 a2 c2 (O cb co) c3) rfl (λ_ h=>h.1) underlying32 Cf hS ?_;refine tz 1 16 (pP w.heap.size 3) ?_;refine ty 2 ⟨some 17,_,_,_,_,none⟩ (sP cb co x.copies.length c3) ?_ ?_
 .intro wy hy
  have h0:=hy.1 3 _ rfl;clear hy;go_simp
 refine tm 3 18 w.heap.size 0 (ffL x a1 c1 a2 c2 (O cb co) c3) rfl (λ_ h=>h.1) underlying32 Cf hS ?_;refine tz 4 19 (sP gb go (qTo x x.copies.length).length qc) ?_;refine tz 5 20 (X ((k:Nat):Int)) ?_;refine ty 6 ⟨some 21,_,_,_,_,none⟩ (pP gb (go+k)) ?_ ?_
 .intro wy hy
  clear hy
  first|(go_simp;done)|(go_simp;omega)
 refine ty 7 ⟨some 22,_,_,_,_,none⟩ (Y y.name) ?_ ?_
 .intro wy hy
  have h0:=hy.2.1;clear hy;go_simp
 refine rd1 8 ⟨some 23,_,_,_,_,none⟩ rfl (λK hK=>?_);go_simp;refine(Xj x a1 c1 a2 c2 (O cb co) c3 lo y.name _ (N3.out.below CpyC.holds (HB.out.trans (hS.2.2.2.mono HB.out.size)) nL) (by omega)).mono ?_;rintro e w2⟨rfl,hb2⟩;rw[HIX.out];have hsz:=HB.out.size;refine hK.out _ _ ⟨Ac hS.1 hb2 (by have:=hS.2.2.2.size;omega),(hb2.cell (p:=(E gb (go+k))) (by have:=hS.2.2.2.size;show gb<_;omega)).trans hS.2.1,Ac hS.2.2.1 hb2 (by have:=hS.2.2.2.size;omega),hS.2.2.2.trans (hb2.mono hS.2.2.2.size)⟩ (λhS=>?_);clear hK K;clear hb2 hsz;refine ty 9 ⟨some 24,_,_,_,_,none⟩ (pP cb (co+ci*12)) ?_ ?_
 .intro wy hy
  clear hy
  first|(go_simp;done)|(go_simp;omega)
 refine tm 10 25 cb (co+ci*12) (ccL y a7 c7) rfl (λ_ h=>h.2.2.1) underlying54 Bz hS ?_;refine rd1 11 ⟨some 26,_,_,_,_,none⟩ rfl (λK hK=>?_);go_simp;refine(bD lo ci x a1 c1 a2 c2 (O cb co) c3 y a7 c7 _ (N1.out.below BrtC.holds (HB.out.trans (hS.2.2.2.mono HB.out.size)) nL) (N3.out.below CpyC.holds (HB.out.trans (hS.2.2.2.mono HB.out.size)) nL) (H7.out.below LikC.holds (HB.out.trans (hS.2.2.2.mono HB.out.size)) nL) HY HV HSEL).mono ?_;rintro e w3⟨rfl,hb2⟩;have hsz:=HB.out.size;refine hK.out _ _ ⟨Ac hS.1 hb2 (by have:=hS.2.2.2.size;omega),(hb2.cell (p:=(E gb (go+k))) (by have:=hS.2.2.2.size;show gb<_;omega)).trans hS.2.1,Ac hS.2.2.1 hb2 (by have:=hS.2.2.2.size;omega),hS.2.2.2.trans (hb2.mono hS.2.2.2.size)⟩ (λhS=>?_);clear hK K;clear hb2 hsz;obtain⟨cz,hcz⟩:∃o,chT x ci y x.berths.length=o:=⟨_,rfl⟩;rw[hcz];have HCZ:Hid (chF x ci=cz):=by
  show _=_
  unfold chF;rw[HY.out];exact hcz
 have HCB:Hid (∀z,cz=some z->P.nameOk z.2.name=true):=λz e=>((Au HV).2.2.1 _ _ (Gg (hcz.trans e)).1).1
 clear hcz;refine tz 12 6 (Y (nmC cz)) ?_;have HS9:=iH hS;refine td ?_;clear hS;have HW9:Hid (bW w1 w3):=HS9.out.2.2.2;have HR9:Hid (w3.cell? (E gb (go+k))=some (Y y.name)):=HS9.out.2.1;have hs9:=HW9.out.size;clear HS9
 cases cz with
 | none =>
  simp only[nmC]
  go_wp2
  go_roundw
  case rel =>
   refine⟨k+1,by omega,by go_num,λc hc=>?_,HW9⟩;rw[List.take_add_one,HCI.out]at hc;rcases List.mem_append.1 hc with hc|hc
   .exact HN.out c hc
   have hc9:c=ci:=by simpa using hc
   rw[hc9];exact HCZ.out
  simp[intOf];omega
 | some z =>
  simp only[nmC];have hnz:=Gx (HCB z rfl);have hte:=Mu hnz;have HFQ:Hid (Fv x=some (ci,z)):=by
   have e:=List.take_append_drop k (qTo x x.copies.length);rw[List.drop_eq_getElem_cons hlt,show(qTo x x.copies.length)[k]=ci from by have h9:=gE hlt;rw[HCI.out]at h9;exact(Option.some.inj h9).symm]at e;show Td x (qTo x x.copies.length)=_
   rw[<-e];exact aH HCZ HN
  have HZ9:=iH (HZ.out.below HW9 (by omega));have HTZ:=iH HZ9.out.there;obtain⟨wf,HE⟩:∃wf,Hid (wf=w3.setCells (w.heap.size+1) 0 [Y y.name,Y z.2.name,.slice none 0 0]):=⟨_,rfl⟩;have HRf:Hid (wf.rangeAt (w.heap.size+1) 0 [Y y.name,Y z.2.name,.slice none 0 0]):=by
   show World.rangeAt _ _ _ _
   rw[HE.out];exact World.rangeAt_setCells_same w3 (w.heap.size+1) 0 _ HTZ
  have HBf:Hid (bW w wf):=by
   show Below _ _ _
   rw[HE.out];exact Ae (by omega) _ _ _ (HB.out.trans (HW9.out.mono (by omega)))
  have h0:=HR9.out;go_wp2_with(first|(refine Ai rfl 49 _ _ rfl (w.heap.size+1) 0 #[Y y.name,Y z.2.name,.slice none 0 0] rfl rfl HTZ Hp (by simp[Value.oneCell']) wf HE ?_));refine bodyPost_ret (fC rfl _ _ (w.heap.size+1) [Y y.name,Y z.2.name,.slice none 0 0] _ rfl HRf underlying49 rfl Hp) rfl ⟨?_,HBf⟩;rw[HFQ.out];show _=Ending.returned (.tuple #[.agg #[Y (nmQ x ci),Y z.2.name,.slice none 0 0],.bool true])
  rw[Vj HY.out];rfl
def BK{α:Type}(P:Program)(gf:Nat)(lb:Array Value)(encs:α->Array Value)(G:Nat->Prop)(n₀:Nat)(g hb:Nat)(N:Nat)(S Sp:List α->Prop)(w:World):Prop :=
 ∀(l:Nat)(J Jx:List α->World->Prop)(W:World),bW w W->n₀+2<=W.heap.size->(∀pre W1 W2,J pre W1->B2 g hb W1 W2->J pre W2) ->
  (∀pre x W1,J pre W1->pre.length<N->YieldAt Fence.wide 0 P l (encs x) W1 λe W'=>(e=.returned (.bool true)/\J (pre++[x]) W'/\KpQ G n₀ W1 W')\/(e=.returned (.bool false)/\Jx (pre++[x]) W')) ->
  J [] W ->
  Calls P gf (#[.func (.yield l) #[] #[]]++lb) W λe W'=>(∃v,e=.returned v)/\((∃xs,S xs/\J xs W')\/∃xs,Sp xs/\Jx xs W')
def CW{α:Type}(B:Nat)(G:Nat->Prop)(I Ix:List α->World->Prop)(xs:List α)(W:World):Exit->Act->World->Prop
 |.normal,_,W'=>KeepsFrom B W W'/\KpQ G B W W'/\I xs W'
 |.ret,_,W'=>KeepsFrom B W W'/\Ix xs W'
 |_,_,_=>False
theorem fO{α:Type}{P:Program}{n:Nat}{g:Operand}{ps:Array Tmp}{assign body:Code}{Q:Exit->Act->World->Prop}{a:Act}{w:World}(G:Nat->Prop)(gw hw:Nat){gf:Nat}{lb:Array Value}(hg:a.eval g=.func (.func gf) #[] lb)(eg:∀args w,(callFunc gf args).run P w=.ok (.enter gf args) w){encs:α->Array Value}{S Sp:List α->Prop}{N:Nat}(hseq:BK P gf lb encs G w.heap.size gw hw N S Sp w)(hgw:gw<w.heap.size)(hhw:hw<w.heap.size)(hps:∀x,(encs x).size=ps.size)(I Ix:List α->World->Prop)(hI:OwnFrom w.heap.size I)(hIx:OwnFrom w.heap.size Ix)(hIB:∀s A B,I s A->B2 gw hw A B->I s B)(h0:I [] w)(Ax:α->Act->World->Prop)(hAx:∀x a',OwnFrom w.heap.size (λ(_:Unit) W=>Ax x a' W))(hassign:∀(l:Nat) (pre:List α) (x:α) (W:World) (K':Act->World->Prop),I pre W->(∀a' W',KeepsFrom w.heap.size W W'->KpQ G w.heap.size W W'->I pre W'->Ax x a' W'->K' a' W') ->
   assign.wpIn (Fence.wide.inRound l) 5 P (Exit.then K' (λ_ _ _=>False)) {tmps:=(ps.zip (encs x)).foldl (λt (p,v)=>t.setIfInBounds p v) a.tmps,defers:=[]} W)(hbody:∀(l:Nat) (pre:List α) (x:α) (a':Act) (W:World),I pre W->Ax x a' W->pre.length<N->body.wpIn (Fence.wide.inRound l) 5 P (CW w.heap.size G I Ix (pre++[x]) W) a' W)(hdone:∀(D:Nat) (xs:List α) (W:World),w.heap.size<=D->S xs->I xs W->W.heap[D]?=some (.deferred (some []))->Q .normal {a with defers:={target:=.collected D,args:=#[]}::a.defers} W)(hstop:∀(D:Nat) (xs:List α) (W:World),w.heap.size<=D->Sp xs->Ix xs W->W.heap[D]?=some (.deferred (some []))->Code.ret.wpIn Fence.wide n P Q {a with defers:={target:=.collected D,args:=#[]}::a.defers} W) :
  (Code.rangeFunc g ps assign body).wpIn Fence.wide n P Q a w:=by
 refine wpIn_rangeFunc λfn hfn=>?_
 rw[show Fence.wide.round=none from rfl];obtain⟨rec,hrec⟩:∃rec:LoopState->Option Code->Loop,rec=λst pe=>{state:=st,pending:=pe,fn,tmps:=a.tmps,params:=ps,assign,body,defers:=w.heap.size}:=⟨_,rfl⟩
 obtain⟨L,hL⟩:∃L,L=w.heap.size+1:=⟨_,rfl⟩;obtain⟨W1,hW1⟩:∃W1,W1=(w.alloc (.deferred (some []))).alloc (.loop (rec .ready none)):=⟨_,rfl⟩;have e1:W1.heap[L]?=some (.loop (rec .ready none)):=by
  have:=World.alloc_heap_new (w.alloc (.deferred (some []))) (.loop (rec .ready none));rw[hW1,hL]
  rwa [World.size_alloc]at this
 have e2:W1.heap[w.heap.size]?=some (.deferred (some [])):=by
  rw[hW1];exact(Below.heap_alloc _ _ _ (by simp)).trans (World.alloc_heap_new w _)
 have e3:W1.heap.size=w.heap.size+2:=by rw[hW1];simp
 have hb:bW w W1:=by rw[hW1];exact((Below.refl _ w).alloc nL _).alloc (by simp) _
 have hI1:I [] W1:=by rw[hW1];exact hI.alloc _ (hI.alloc _ h0)
 have put:∀{s:List α} {W:World} {r:Loop} (o':Obj),I s W->W.heap[L]?=some (.loop r)->I s (W.putObj L o'):=λo' hi hl=>hI.putObj o' hi (by omega) hl rfl
 have putx:∀{s:List α} {W:World} {r:Loop} (o':Obj),Ix s W->W.heap[L]?=some (.loop r)->Ix s (W.putObj L o'):=λo' hi hl=>hIx.putObj o' hi (by omega) hl rfl
 refine⟨L,[{target:=.collected w.heap.size,args:=#[]}],W1,{target:=.fn (.func gf) lb,args:=#[.func (.yield L) #[] #[]]},W1,gf,#[.func (.yield L) #[] #[]]++lb,W1,?_,?_,λ_ _=>trivial,?_,(λh=>by cases h),?_⟩
 .rw[hW1,hL,hrec];exact run_enterLoop_outer _ _ _ _ _
 .simp only[resolve,hg]
  simp[go_sem]
 .simp[invoke,go_sem,eg]
 refine callsIn_wide.2 ((hseq L (λpre W=>I pre W/\W.heap[L]?=some (.loop (rec .ready none))/\W.heap[w.heap.size]?=some (.deferred (some [])))
  (λpre W=>Ix pre W/\W.heap[L]?=some (.loop (rec .done (some .ret)))/\W.heap[w.heap.size]?=some (.deferred (some []))) W1 hb (by omega) ?_ ?_ ⟨hI1,e1,e2⟩).mono ?_)
 .rintro pre A B⟨h1,h2,h3⟩h4
  exact⟨hIB _ _ _ h1 h4,(h4.block L (Array.getElem?_eq_some_iff.1 h2).1 (by omega) (by omega)).trans h2,(h4.block _ (Array.getElem?_eq_some_iff.1 h3).1 (by omega) (by omega)).trans h3⟩
 .rintro pre x W⟨hi,hl,hk⟩hlen
  have hy:=run_yield (P:=P) (args:=encs x) hl (by rw[hrec];exact hps x);rw[hrec]at hy;refine⟨fn,_,assign,body,hy,roundIn_of_wpIn hfn (Gl (m:=5) (hassign L pre x W _ hi ?_))⟩;clear hy;intro a' Wa ka kpa hia hax;have hla:=ka.same _ _ (by omega) hl rfl;have hka:=ka.same _ _ nL hk rfl;have hlt:L<Wa.heap.size:=(Array.getElem?_eq_some_iff.1 hla).1;refine⟨_,run_beginRound hla (by rw[hrec]),?_⟩;obtain⟨Wb,hWb⟩:∃Wb,Wb=Wa.putObj L (.loop {rec .ready none with state:=.busy}):=⟨_,rfl⟩;have hlb:Wb.heap[L]?=some (.loop {rec .ready none with state:=.busy}):=by rw[hWb];exact World.putObj_heap_same hlt
  have hkb:Wb.heap[w.heap.size]?=some (.deferred (some [])):=by rw[hWb];exact(World.putObj_heap_other (by omega)).trans hka
  have kb:KpQ G w.heap.size W Wb:=kpa.trans (by rw[hWb];exact KpQ.putObj _ _ (by omega));have hib:I pre Wb:=by rw[hWb];exact put _ hia hla
  have haxb:Ax x a' Wb:=by rw[hWb];exact(hAx x a').putObj (s:=()) _ hax (by omega) hla rfl
  rw[<-hWb];clear hWb;refine wpIn_mono (Gl (m:=5) (hbody L pre x a' Wb hib haxb hlen)) ?_;rintro e a3 W3 hp
  cases e with
  |normal =>
   obtain⟨k3,kp3,hi3⟩:=hp;have hl3:=k3.same _ _ (by omega) hlb rfl;have hk3:=k3.same _ _ nL hkb rfl;have hr:=run_endRound (P:=P) none hl3;refine⟨_,_,hr,.inl ⟨rfl,⟨put _ hi3 hl3,?_,(World.putObj_heap_other (by omega)).trans hk3⟩,kb.trans (kp3.trans (KpQ.putObj _ _ (by omega)))⟩⟩;rw[World.putObj_heap_same (Array.getElem?_eq_some_iff.1 hl3).1,hrec];rfl
  |ret =>
   obtain⟨k3,hi3⟩:=hp;have hl3:=k3.same _ _ (by omega) hlb rfl;have hk3:=k3.same _ _ nL hkb rfl;have hr:=run_endRound (P:=P) (some .ret) hl3;refine⟨_,_,hr,.inr ⟨rfl,putx _ hi3 hl3,?_,(World.putObj_heap_other (by omega)).trans hk3⟩⟩;rw[World.putObj_heap_same (Array.getElem?_eq_some_iff.1 hl3).1,hrec];rfl
  |exit id=>exact hp.elim
  |goto t=>exact hp.elim
  |panic ch=>exact hp.elim
  |outgrown=>exact hp.elim
 rintro e W2 ⟨⟨v,rfl⟩,(⟨xs,hS,hi,hl,hk⟩|⟨xs,hS,hi,hl,hk⟩)⟩
 .have hr:=run_endLoop (P:=P) hl (by rw[hrec];simp)
  exact⟨none,_,by rw[hrec]at hr;exact hr,hdone _ xs _ nL hS (put _ hi hl) ((World.putObj_heap_other (by omega)).trans hk)⟩
 have hr:=run_endLoop (P:=P) hl (by rw[hrec];simp);exact⟨some .ret,_,by rw[hrec]at hr;exact hr,hstop _ xs _ nL hS (putx _ hi hl) ((World.putObj_heap_other (by omega)).trans hk)⟩
theorem HpW.kp{mz:Nat}{x:Flt}{a3:OA}{c3:Nat}{Wb:World}{Bc hb:Nat}{lv:Value}{l:List Nat}{W W':World}{G:Nat->Prop}{n₀:Nat}(h:HpW mz x a3 c3 Wb Bc hb lv l W)(k:KpQ G n₀ W W')(hn:Wb.heap.size<=n₀)(hG:∀k,G k->Wb.heap.size<=k\/k=mz)(k1:hb<n₀)(k2:Bc<n₀)(k3:¬G hb)(k4:¬G Bc)(k5:∀g,lv.ownBlock=some g->g<n₀/\¬G g):HpW mz x a3 c3 Wb Bc hb lv l W':=by
 refine⟨But.trans h.bel ⟨k.os,k.tape,k.output,k.size,λi hi hz=>k.block i (by omega) (λhg=>by have:=hG i hg;omega)⟩,(k.block _ k2 k4).trans h.box,(k.block _ k1 k3).trans h.blk,?_,h.n1,h.n3,h.b1,h.b2⟩;rcases h.row.2 with hh|⟨g,cap,cur,h1,h2,h3,h4,h5,h6,h7⟩
 .exact⟨h.row.1,.inl hh⟩
 obtain⟨q1,q2⟩:=k5 g (by rw[h1];rfl);exact⟨h.row.1,.inr ⟨g,cap,cur,h1,h2,(k.block g q1 q2).trans h3,h4,h5,h6,h7⟩⟩
theorem yD(hb:Nat)(w:World) :
  Calls prog 68 #[pP hb 0] w λe w'=>e=.returned (.func (.func 109) #[] #[pP w.heap.size 0])/\w'=w.alloc (Obj.cells #[pP hb 0] 113):=by
 go_enter func68,ntmps68
 go_wp2
 go_ret;exact⟨rfl,rfl⟩
theorem HpW.form{mz:Nat}{x:Flt}{a3:OA}{c3:Nat}{Wb:World}{Bc hb:Nat}{lv:Value}{l:List Nat}{W:World}(h:HpW mz x a3 c3 Wb Bc hb lv l W):∃a cap,lv=.slice a l.length cap:=by
 rcases h.row.2 with⟨h1,h2⟩|⟨g,cap,cur,h1,_⟩
 .exact⟨none,0,by rw[h1,h2]⟩
 exact⟨_,cap,h1⟩
def vV(hb:Nat)(w:World):Nat:=match w.cell? (E hb 0)with
 |some (.slice _ n _)=>n
 |_=>0
theorem HpW.len{mz:Nat}{x:Flt}{a3:OA}{c3:Nat}{Wb:World}{Bc hb:Nat}{lv:Value}{l:List Nat}{W:World}(h:HpW mz x a3 c3 Wb Bc hb lv l W):vV hb W=l.length:=by
 obtain⟨a,cap,e⟩:=h.form;have h0:W.cell? (E hb 0)=some lv:=h.blk.cell rfl;unfold vV;rw[h0,e]
def sF(n:Nat)(a:Fin n):Array Value:=#[X ((a.1:Nat):Int)]
theorem xG(mz:Nat)(x:Flt)(a3:OA)(c3:Nat)(Wb:World)(Bc hb Ba:Nat)(cf:Nat->Nat->Int)(og:LtO (ltF cf))(G:Nat->Prop)(n₀:Nat)(lv:Value)(l:List Nat)(g:Nat)(w:World)(hc:pH mz x a3 c3 Wb Bc (List.range x.copies.length) cf)(h:HpW mz x a3 c3 Wb Bc hb lv l w)(hh:Heap (ltF cf) l)(hS:∀b∈l,b<x.copies.length)(hl:l.length<=1000000)(hg:∀g',lv.ownBlock=some g'->g'=g)(hBa:Blk Ba #[pP hb 0] 113 w)(hn:Wb.heap.size<=n₀)(hG:∀k,G k->Wb.heap.size<=k\/k=mz)(k1:hb<n₀)(k2:Bc<n₀)(k3:¬G hb)(k4:¬G Bc)(k5:g<n₀)(k6:¬G g)(k7:Ba<n₀)(k8:¬G Ba)(k9:Ba≠g)(k10:Ba≠hb) :
  BK prog 109 #[pP Ba 0] (sF x.copies.length) G n₀ g hb l.length (λxs=>(xs.map (·.1)).Perm l/\(xs.map (·.1)).Pairwise (λa b=>ltF cf b a=false)) (λxs=>∃l':List Nat,(xs.map (·.1)++l').Perm l/\(xs.map (·.1)).Pairwise (λa b=>ltF cf b a=false)/\∀a∈xs,∀b∈l',ltF cf b a.1=false) w:=by
 intro Y9 J Jx W hbW hn2 hJ hY h0;have HC:=iH hc;have HOG:=iH og;have HJ:=iH hJ;have HY:=iH hY;have HGG:=iH hG;have HSS:=iH hS;have HW0:=iH (HpW.mk (Bc:=Bc) (hb:=hb) (lv:=lv) (l:=l) (W:=W) (h.bel.trans (hbW.mono h.bel.size)) (h.box.below hbW h.box.lt) (h.blk.below hbW h.blk.lt) (Ak h.row hbW) h.n1 h.n3 h.b1 h.b2);have HB0:=iH (hBa.below hbW hBa.lt);have H0:=iH h0;have HHP:=iH hh;have HLV:Hid (l≠[]->∃cap,lv=sP g 0 l.length cap):=by
  intro hne;obtain⟨g',cap,cur,h1,_⟩:=h.at_ (by cases l;exact absurd rfl hne;simp);have:=hg g' (by rw[h1];rfl);subst this;exact⟨cap,h1⟩
 have HGV:Hid (∀g',lv.ownBlock=some g'->g'=g):=hg;clear hc og hJ hY hG hS h0 h hBa hh hg hbW;show Calls prog 109 #[.func (.yield Y9) #[] #[],pP Ba 0] W _
 go_enter func109,ntmps109
 go_wp2
 go_loopw [3] (λ_ wr=>∃(pre:List (Fin x.copies.length))(lv':Value)(l':List Nat),Hid (HpW mz x a3 c3 Wb Bc hb lv' l' wr)/\Hid (¬l'=[]->∃cap,lv'=sP g 0 l'.length cap)/\Hid (∀g',lv'.ownBlock=some g'->g'=g)/\Hid (Heap (ltF cf) l')/\Hid ((pre.map (·.1)++l').Perm l)/\Hid ((pre.map (·.1)).Pairwise (λa b=>ltF cf b a=false))/\Hid (∀a∈pre,∀b∈l',ltF cf b a.1=false)/\Hid (J pre wr)/\Hid (Blk Ba #[pP hb 0] 113 wr)) (λ_ wr=>vV hb wr)
 case atStart=>exact⟨[],lv,l,HW0,HLV,HGV,HHP,List.Perm.refl _,List.Pairwise.nil,(λa ha=>by cases ha),H0,HB0⟩
 clear HW0 HLV HGV HHP H0 HB0;obtain⟨pre,lv',l',HW,HL,HG,HH,HP,HS,HA,HJJ,HB⟩:=hrel;have hb1:wr.cell? (E Ba 0)=some (pP hb 0):=HB.out.cell rfl;by_cases hne:l'=[]
 case pos =>
  obtain⟨a,cap,rfl⟩:=HW.out.form;have HE:=iH hne;have hb2:wr.cell? (E hb 0)=some (.slice a 0 cap):=by have h9:=HW.out.blk.cell (o:=0) rfl;rw[hne]at h9;exact h9
  clear hne;go_wp2_with fail
  first|go_end0|((try simp only[Exit.inBlock,Exit.then]);refine bodyPost_ret (results_none rfl _ _ _) rfl ?_)
  refine⟨⟨_,rfl⟩,.inl ⟨pre,⟨?_,HS⟩,HJJ⟩⟩;have h9:=HP.out;rw[HE.out,List.append_nil]at h9;exact h9
 obtain⟨cap,rfl⟩:=HL.out hne;have hpos:0<l'.length:=by cases l';exact absurd rfl hne;simp
 have hb2:wr.cell? (E hb 0)=some (sP g 0 l'.length cap):=HW.out.blk.cell rfl;have hlen:=HP.out.length_eq;rw[List.length_append,List.length_map]at hlen;have hil:(0:Int)<((l'.length:Nat):Int):=by omega
 have HLEN:=iH HW.out.len;clear hne HL;refine(wpIn_wide (n:=5)).1 ?_
 gi_wp2_with fail
 refine⟨trivial,(callsIn_wide.2 (oA mz x a3 c3 Wb Bc hb (List.range x.copies.length) cf HOG g l'.length cap l' _ HC HW rfl (λb hb9=>List.mem_range.2 (HSS b (HP.out.subset (List.mem_append_right _ hb9)))) HH hpos (by omega))).mono ?_⟩;rintro e w5⟨l5,rfl,hw5,hl5,hh5,hp5,hB5⟩;obtain⟨y,hy5⟩:∃y:Fin x.copies.length,y.1=hAt l' 0:=⟨⟨hAt l' 0,HSS _ (HP.out.subset (List.mem_append_right _ (Nc hpos)))⟩,rfl⟩;have HYE:=iH hy5;have HJ5:=iH (HJ _ _ _ HJJ hB5);have HBA5:Hid (Blk Ba #[pP hb 0] 113 w5):=(hB5.block _ HB.out.lt k9 k10).trans HB;have hcp:=aE hpos;have HPP:Hid (((pre++[y]).map (·.1)++l5).Perm l):=by
  show List.Perm _ _
  rw[List.map_append,List.append_assoc];refine(List.Perm.append_left _ ?_).trans HP;show(y.1::l5).Perm l'
  rw[hy5];exact(hp5.cons _).trans hcp
 have hsub:∀b∈l5,b∈l':=λb hb9=>hcp.subset (List.mem_cons_of_mem _ (hp5.subset hb9))
 have htop:∀b∈l',ltF cf b (hAt l' 0)=false:=λb hb9=>by
  obtain⟨i,hi,he⟩:=List.mem_iff_getElem.1 hb9;have:=HH.out.top HOG i hi;rw[Fh (gE hi),he]at this;exact this
 have HSP:Hid (((pre++[y]).map (·.1)).Pairwise (λa b=>ltF cf b a=false)):=by
  show List.Pairwise _ _
  rw[List.map_append,List.pairwise_append];refine⟨HS,List.pairwise_singleton _ _,λa ha b hb9=>?_⟩;rw[List.map_singleton,List.mem_singleton]at hb9;rw[hb9,hy5];obtain⟨a',ha',rfl⟩:=List.mem_map.1 ha;exact HA.out a' ha' _ (Nc hpos)
 have HAP:Hid (∀a∈pre++[y],∀b∈l5,ltF cf b a.1=false):=by
  intro a ha b hb9;rcases List.mem_append.1 ha with h|h
  .exact HA.out a h b (hsub b hb9)
  rw[List.mem_singleton.1 h,hy5];exact htop b (hsub b hb9)
 have HW5:=iH hw5;have HH5:=iH hh5;have HL5:=iH hl5;clear hw5 hh5 hp5 hB5 hcp hsub htop HJJ HB HW HH HS HA hy5 hb1 hb2 hl5;obtain⟨fn,tmps,assign,body,hy,hR⟩:=YieldAt.anyQ (m':=4) (HY pre y w5 HJ5 (by omega));dsimp only[sF]at hy;rw[HYE.out]at hy
 have hR':=hR.mono (R':=λe W9=>(e=.returned (.bool true)/\Hid (J (pre++[y]) W9/\KpQ G n₀ w5 W9))\/(e=.returned (.bool false)/\Hid (Jx (pre++[y]) W9))) (by
  rintro e W9 (⟨h1,h2,h3⟩|h1)
  .exact .inl ⟨h1,h2,h3⟩
  exact .inr h1)
 clear hR
 gi_wp2_with (refine hR'.mono ?_;rintro e W9 (⟨rfl,hq9⟩|⟨rfl,hx9⟩))
 rotate_left
 .clear hR' hy
  refine(show bodyPost _ _ _ _ _ _ from ?_)
  first|go_end0|((try simp only[Exit.inBlock,Exit.then]);refine bodyPost_ret (results_none rfl _ _ _) rfl ?_)
  exact⟨⟨_,rfl⟩,.inr ⟨pre++[y],⟨l5,HPP,HSP,HAP⟩,hx9.out⟩⟩
 clear hR' hy;have HW9:Hid (HpW mz x a3 c3 Wb Bc hb (sP g 0 (l'.length-1) cap) l5 W9):=HW5.out.kp hq9.out.2 hn HGG k1 k2 k3 k4 (λg' e=>by cases e;exact⟨k5,k6⟩);have HB9:Hid (Blk Ba #[pP hb 0] 113 W9):=(hq9.out.2.block _ k7 k8).trans HBA5;have HLL:Hid (vV hb W9<l'.length):=by
  show _<_
  rw[HW9.out.len,HL5.out];omega
 go_wp2
 go_roundw
 case rel=>exact⟨pre++[y],_,l5,HW9,λ_=>⟨cap,by rw[HL5.out]⟩,(λg' e=>by cases e;rfl),HH5,HPP,HSP,HAP,hq9.out.1,HB9⟩
 have h8:=HLL.out;have h9:=HLEN.out;omega
end Go.Proofs.YthboopnmbglkjaaGreat
