import Derived.Test.YthboopnmbglkjaaGreatJ35
set_option maxHeartbeats 16000000
set_option maxRecDepth 100000
namespace Go.Proofs.YthboopnmbglkjaaGreat
open Go.RowKit Go.WideMaps Go.Maps Tryz
theorem Gh{P:Program}{op:Oper}{a:Act}{w:World}{K:Act->World->Prop}{Q:Exit->Act->World->Prop}(s x:Operand)(t:TypeId)(ho:op.op=.call {callee:=.builtin .append,args:=#[s,x],argTypes:=#[t,t]})(base:Nat)(e:TypeId)(i:TypeInfo)(z:Value)(size bytes:Nat)(ht:P.underlying t=some (.slice e))(hi:P.info? e=some i)(hz:i.zero=some z)(hsize:i.size=size)(hby:i.bytes=bytes)(hzs:z.cells.size=size)(hsz:0<size)(v:Value)(n:Nat)(xs:List Value)(hs:a.eval s=v)(hown:w.ownsRow base e size v n xs)(ad:Addr)(m c:Nat)(news:List Value)(hx:a.eval x=.slice (some ad) m c)(hl:news.length=m*size)(hnews:∀j u,news[j]?=some u->w.cell? (ad.add j)=some u)(h1:∀u∈news,u.oneCell'=true)(h63:n+m<=maxLen)(hbytes:(n+m)*bytes<=140737488355328)(hbase:base<=w.heap.size)(h:∀v' w',w'.ownsRow base e size v' (n+m) (xs++news)->w.grownBy w' v.ownBlock->(v'=.slice none 0 0↔v=.slice none 0 0/\m=0)->(v'.ownBlock=v.ownBlock\/v'.ownBlock=some w.heap.size)->K (a.put op.dst v') w'):op.wp P a w K Q:=by
 obtain⟨v',w',hr,h2,h3,h4,h5⟩:=run_append_own_at (P:=P) w base t op.type e i z size bytes ht hi hz hsize hby hzs hsz v n xs hown ad m c news hl hnews h1 h63 hbytes hbase;unfold Oper.wp;simp[execOp,ho,resolve,invoke,builtin,hs,hx,hr,Result.andThen];exact h v' w' h2 h3 h4 h5
theorem Xe{p b:Nat}{cs:Array Value}{t:TypeId}{w w':World}(h:Blk p cs t w)(hg:w.grownBy w' (some b))(hne:p≠b):Blk p cs t w' :=
 (hg.block p h.lt (λe=>hne (Option.some.inj e))).trans h
theorem uS{base base':Nat}{e:TypeId}{size:Nat}{v:Value}{n:Nat}{xs:List Value}{w:World}(h:w.ownsRow base e size v n xs)(hb:base'<=base):w.ownsRow base' e size v n xs:=by
 refine⟨h.1,?_⟩;rcases h.2 with h1|⟨g,cap,cur,h1,h2,h3⟩
 .exact .inl h1
 exact .inr ⟨g,cap,cur,h1,lT hb h2,h3⟩
theorem Ve{α:Type}{l:List α}{j t:Nat}{a:α}(h:(l.take j)[t]?=some a):l[t]?=some a:=by
 rw[List.getElem?_take]at h
 split at h
 .exact h
 cases h
theorem fP{base n:Nat}{w:World}{e:TypeId}{s:Nat}{cs:List Value}{v:Value}(h:w.ownsRow base e s v n cs)(hn:v≠.slice none 0 0):∃g cap,v=sP g 0 n cap:=by
 rcases h.2 with⟨h1,_⟩|⟨g,cap,cur,h1,_⟩
 .exact absurd h1 hn
 exact⟨g,cap,h1⟩
theorem AA{x:Flt}{a b:Nat}{d c:Cpy}(h1:x.copies[a]?=some d)(h2:x.copies[b]?=some c):ltF (cfQ x) a b=ahW d c:=by
 unfold ltF cfQ;rw[h1,h2];exact uZ d c
theorem bG{lt:Nat->Nat->Bool}{k:Nat}:∀{j:Nat} {l:List Nat},j<=l.length->(∀a∈l.take j,lt a k=true)->(∀a,l[j]?=some a->lt a k=false)->Ol lt l k=l.take j++k::l.drop j
 |0,[],_,_,_=>rfl
 |0,a::r,_,_,h=>by
  have h0:=h a rfl;unfold Ol;rw[List.takeWhile_cons,List.dropWhile_cons,if_neg (by rw[h0];decide),if_neg (by rw[h0];decide)];rfl
 |j+1,[],hl,_,_=>by simp at hl
 |j+1,a::r,hl,h1,h2=>by
  have ha:lt a k=true:=h1 a (by simp);have ih:=bG (lt:=lt) (k:=k) (j:=j) (l:=r) (by simpa using hl) (λb hb=>h1 b (by rw[List.take_succ_cons];exact List.mem_cons_of_mem _ hb)) (λb hb=>h2 b (by simpa using hb));unfold Ol at *;rw[List.takeWhile_cons,List.dropWhile_cons,if_pos ha,if_pos ha,List.take_succ_cons,List.drop_succ_cons,List.cons_append,ih];rfl
def BR(l:List BA)(w:World)(e:Ending)(w':World):Prop:=∃a cap,e=.returned (.slice a l.length cap)/\sX (w.heap.size+1) w' a l/\Below w.heap.size w w'
theorem zB{x:Flt}{lo:Nat}{w:World}{a3:OA}(n3:sC lo w a3 x.copies):∃b3 o3,∀(i:Nat)(c:Cpy),x.copies[i]?=some c->a3=(O b3 o3)/\b3<w.heap.size:=by
 by_cases h:0<x.copies.length
 .obtain⟨b,o,e,_,hb,_⟩:=n3.at (gE h)
  exact⟨b,o,λ_ _ _=>⟨e,hb⟩⟩
 exact⟨0,0,λi c hc=>by have:=Af hc;omega⟩
theorem fD(x:Flt)(a1:OA)(c1:Nat)(a2:OA)(c2:Nat)(a3:OA)(c3:Nat)(lo:Nat)(w:World)(n3:sC lo w a3 x.copies)(l3:x.copies.length<=60)(hnm:∀s∈(qTo x x.copies.length).map (nmQ x),s.size<=20) :
  Calls prog 54 #[.agg (ffA x a1 c1 a2 c2 a3 c3)] w λe w'=>BR ((qTo x x.copies.length).map (nmQ x)) w e w':=by
 obtain⟨i0,hi,hz0,hz1,hz2⟩:=info_parts Qt;obtain⟨j0,hj,hy0,hy1,hy2⟩:=info_parts Hc;have HI0:=iH hi;have HJ0:=iH hj;have N3:=iH n3;have HNM:=iH hnm;obtain⟨b3,o3,hab⟩:=zB n3;have HAB:=iH hab;clear n3 hi hj hnm hab;have hb1:Below w.heap.size w (w.alloc (Obj.cells (ffA x a1 c1 a2 c2 a3 c3) 32)):=by go_grown
 have HF1:Hid (FltIn w.heap.size x a1 c1 a2 c2 a3 c3 (w.alloc (Obj.cells (ffA x a1 c1 a2 c2 a3 c3) 32))):=⟨by simp,by simp,by simp,by simp⟩;have hs1:(w.alloc (Obj.cells (ffA x a1 c1 a2 c2 a3 c3) 32)).heap.size=w.heap.size+1:=by simp
 go_enter func54,ntmps54;go_upto_region 1 with fail;generalize w.alloc (Obj.cells (ffA x a1 c1 a2 c2 a3 c3) 32)=w1 at *;have HS1:=iH hs1;have hb2:Below w1.heap.size w1 (w1.alloc (Obj.cells #[] 54)):=by go_grown
 have HO2:Hid ((w1.alloc (Obj.cells #[] 54)).ownsRow w1.heap.size 54 12 (sP w1.heap.size 0 0 0) 0 (rvQ x w b3 o3 [])):=World.ownsRow_made w1 #[] 0 nL (zL) rfl;clear hs1;go_upto_region 3 with fail;generalize w1.alloc (Obj.cells #[] 54)=w2 at *;obtain⟨H1,hH1⟩:∃H1,H1=w1.heap.size:=⟨_,rfl⟩;have HH1:=iH hH1;rw[<-hH1]at hb2 HO2⊢;clear hH1;go_loopw [3,4] (λv i wr=>∃(k g q m:Nat)(L:List Nat),k<=x.copies.length/\m<=k/\i=X k/\v=sP g 0 m q/\Hid (L=qTo x k)/\Hid (L.length=m)/\Hid (wr.ownsRow H1 54 12 (sP g 0 m q) m (rvQ x w b3 o3 L))/\Below H1 w1 wr) (λ_ i _=>x.copies.length-(intOf i).toNat)
 case atStart=>exact⟨0,H1,0,0,[],zL,Nat.le_refl _,rfl,rfl,rfl,rfl,HO2,hb2⟩
 clear HO2 hb2;obtain⟨k,g,q,m,L,hkk,hmk,rfl,rfl,HL,HLL,HO,hB⟩:=hrel;have HFr:=iH (HF1.out.below hB (by have h9:=HH1.out;have h8:=HS1.out;omega));have f3:=HFr.out.2.2.2;by_cases hlt:k<x.copies.length
 case neg =>
  have hke:k=x.copies.length:=by omega
  subst hke;clear hlt;generalize wr=w3 at *;have hm3:w.heap.size+1<=w3.heap.size:=by have h9:=HH1.out;have h8:=HS1.out;have h7:=hB.size;omega
  have HBw:Hid (Below w.heap.size w w3):=by
   have h9:=HH1.out;have h8:=HS1.out;exact hb1.trans (hB.mono (by omega))
  have HO2:Hid ((w3.alloc (Obj.cells #[] 9)).ownsRow w3.heap.size 9 1 (sP w3.heap.size 0 0 0) 0 (stV [])):=World.ownsRow_made w3 #[] 0 nL (zL) rfl;have hb2:Below w3.heap.size w3 (w3.alloc (Obj.cells #[] 9)):=by go_grown
  have hgl:=HO.out.lt g rfl;go_upto_region 11 with fail;clear f3 HFr;generalize w3.alloc (Obj.cells #[] 9)=w5 at *
  go_wp2
  go_loopw [6,7] (λv i wz=>∃j:Nat,j<=m/\i=X j/\Hid (wz.ownsRow w3.heap.size 9 1 v ((L.take j).map (nmQ x)).length (stV ((L.take j).map (nmQ x))))/\Below w3.heap.size w3 wz) (λ_ i _=>m-(intOf i).toNat)
  case atStart=>exact⟨0,zL,rfl,HO2,hb2⟩
  clear HO2 hb2;obtain⟨j,hj,rfl,HOj,hBj⟩:=hrel;by_cases hjm:j<m
  case neg =>
   have HE:Hid ((L.take j).map (nmQ x)=(qTo x x.copies.length).map (nmQ x)):=by show _=_;rw[List.take_of_length_le (by have:=HLL.out;omega),HL.out]
   rw[HE.out]at HOj;obtain⟨av,cv,rfl,hsv⟩:=vE HOj (λs hs=>by have:=HNM.out s hs;unfold maxLen;omega) (by have:=vZ x x.copies.length;rw[List.length_map];unfold maxLen;omega);have HSV:=iH hsv;clear hsv;have hjn:¬(j:Int)<(m:Int):=by omega
   go_wp2
   go_ret;exact⟨av,cv,by simp,HSV.out.keep StrC.holds (Keeps.refl _ _) hm3,HBw.out.trans (hBj.mono (by omega))⟩
  obtain⟨i,hi⟩:∃i,L[j]?=some i:=⟨L[j]'(by have:=HLL.out;omega),gE _⟩;have hil:i<x.copies.length:=by
   have h9:=List.mem_of_getElem? hi;rw[HL.out]at h9;exact Sd h9
  obtain⟨d,hd⟩:∃d,x.copies[i]?=some d:=⟨x.copies[i]'hil,gE _⟩;have kn:wr.cell? (E g (j*12))=some (Y d.name):=by
   have h9:=gZ HO HLL.out.symm hi;rw[cU hd]at h9;exact(hBj.cell (p:=(E g (j*12))) hgl.2).trans (h9 0 _ rfl)
  have HE:Hid ((L.take (j+1)).map (nmQ x)=(L.take j).map (nmQ x)++[d.name]):=by
   show _=_
   rw[List.take_add_one,hi,List.map_append];simp[Vj hd]
  have hln:((L.take j).map (nmQ x)).length=j:=by have:=HLL.out;simp;omega
  have hjn:(j:Int)<(m:Int):=by omega
  have hwz:=hBj.size;clear hi hd;go_wp2_with(first|(at_builtin;refine wpList_append_lies _ rfl (.tmp 64) (.tmp 70) 47 rfl w3.heap.size 9 j0 _ 1 16 underlying47 HJ0 hy0 hy1 hy2 rfl (by decide) _ ((L.take j).map (nmQ x)).length _ rfl (Ak HOj ((Below.refl _ _).alloc nL _)) (E wr.heap.size 0) 1 1 [Y d.name] rfl rfl (CU (by simp)) (by intro u hu;rw[List.mem_singleton.1 hu];rfl) (by omega) (by unfold maxLen;omega) (by omega) (by simp;omega) _ rfl ?_;intro gn cap w9 hown hgrow hto hgl9));go_roundw
  case rel =>
   have hBa:Below w3.heap.size w3 (wr.alloc (Obj.cells #[Y d.name] 9)):=hBj.alloc hBj.size _;refine⟨j+1,by omega,by go_num,?_,hBa.grown hgrow hBa.size (λr e=>(HOj.out.lt r e).1)⟩;show World.ownsRow _ _ _ _ _ _ _
   rw[HE.out];simpa[stV]using hown
  simp[intOf];omega
 obtain⟨c,hc⟩:=gXe hlt;obtain⟨ea,hb3⟩:=HAB.out k c hc;subst ea;obtain⟨la,hla⟩:∃la,la=(lkQ w b3 o3 k).1:=⟨_,rfl⟩;obtain⟨lc,hlc⟩:∃lc,lc=(lkQ w b3 o3 k).2:=⟨_,rfl⟩;have hvc:vcQ x w b3 o3 k=(ccL c la lc):=by rw[cU hc,hla,hlc]
 have hrc0:w.rangeAt b3 (o3+k*12) (ccL c la lc):=by rw[<-hvc];exact rS N3 hc
 have HVC:=iH hvc;have HRC:Hid (∀wy,Below H1 w1 wy->wy.rangeAt b3 (o3+k*12) (ccL c la lc)):=λwy hy t u ht=>((hb1.trans (hy.mono (by have h9:=HH1.out;have h8:=HS1.out;omega))).cell (p:=(E b3 (o3+k*12+t))) hb3).trans (hrc0 t u ht)
 have HCK:=iH hc;have kat:wr.cell? (E b3 (o3+k*12+11))=some (Y c.at_):=HRC.out wr hB 11 _ rfl;clear hvc hrc0 hla hlc hc;by_cases he:c.at_=⟨#[]⟩
 case neg =>
  have HE:Hid (qTo x (k+1)=L):=by
   show(if wtB x k=true then _ else _)=L
   rw[if_neg (by unfold wtB;rw[HCK.out];simpa using he),HL.out]
  have hsz:¬c.at_.size=0:=λe=>he (ByteArray.ext (Array.eq_empty_of_size_eq_zero e))
  have hte:c.at_.toList.isEmpty=false:=by
   rw[ByteArray.toList_eq]
   try unfold ffA
   cases hl:c.at_.data.toList with
   |nil=>exact absurd (by have:=congrArg List.length hl;simpa using this) hsz
   |cons _ _=>rfl
  clear he
  go_wp2
  go_roundw
  case rel=>exact⟨k+1,g,q,m,L,by omega,by omega,by go_num,rfl,HE.out.symm,HLL,HO,hB⟩
  simp[intOf];omega
 have HSN:Hid (qTo x (k+1)=Ol (ltF (cfQ x)) L k):=by
  show(if wtB x k=true then _ else _)=_
  rw[if_pos (by unfold wtB;rw[HCK.out];simpa using he),HL.out]
 rw[he]at kat;clear he;go_upto_region 6 with fail;clear kat f3 HFr;have hqq:m<=q:=vI HO
 go_wp2
 go_loopw [5] (λi wz=>∃j:Nat,j<=m/\i=X j/\Hid (∀a∈L.take j,ltF (cfQ x) a k=true)/\Hid (wz.ownsRow H1 54 12 (sP g 0 m q) m (rvQ x w b3 o3 L))/\Below H1 w1 wz) (λi _=>m-(intOf i).toNat)
 case atStart=>exact⟨0,zL,rfl,(λa ha=>by simp at ha),HO,hB⟩
 clear HO hB;obtain⟨j,hj,rfl,HA,HO,hB⟩:=hrel;have hgl:=HO.out.lt g rfl;go_upto_region 7 with fail;by_cases hjm:j<m
 case' neg =>
  have HJE:Hid (j=m):=by show _=_;omega
  have HID:Hid (Ol (ltF (cfQ x)) L k=L.take j++k::L.drop j):=bG (by have:=HLL.out;omega) HA (λa ha=>by have h9:=Af ha;have h8:=HLL.out;have h7:=HJE.out;omega);have hjn:¬(j:Int)<(m:Int):=by omega
  refine wp_region_held_drew (S:=λwy=>Below H1 w1 wy) (by kernel_rfl) hB.drew (λhS=>?_);replace hB:=hB.drew;replace HO:=iH (Ak HO (Below.refl _ wr).drew);clear hgl;generalize wr.drew=wb at *;refine tz 0 23 (X j) ?_;refine tz 1 24 (sP g 0 m q) ?_;refine tz 2 25 (X m) ?_;refine x3 3 26 (.bool false) ?_;refine tz 4 27 (.bool false) ?_;refine ts 5 28 ?_;refine ts 6 29 ?_;refine ts 7 30 ?_;refine ts 8 31 ?_;refine ts 9 32 ?_;refine ts 10 33 ?_;refine ts 11 34 ?_;refine ts 12 35 ?_;refine ts 13 36 ?_;refine ts 14 37 ?_
 case' pos =>
  obtain⟨i,hi⟩:∃i,L[j]?=some i:=⟨L[j]'(by have:=HLL.out;omega),gE _⟩;have hik:i<k:=by
   have h9:=List.mem_of_getElem? hi;rw[HL.out]at h9;exact Sd h9
  obtain⟨d,hd⟩:∃d,x.copies[i]?=some d:=⟨x.copies[i]'(by omega),gE _⟩;obtain⟨ld,hld⟩:∃ld,ld=(lkQ w b3 o3 i).1:=⟨_,rfl⟩;obtain⟨ldc,hldc⟩:∃ldc,ldc=(lkQ w b3 o3 i).2:=⟨_,rfl⟩;have hrd:wr.rangeAt g (j*12) (ccL d ld ldc):=by
   have h9:=gZ HO HLL.out.symm hi;rw[cU hd,<-hld,<-hldc]at h9;exact h9
  have HAH:=iH (AA hd HCK);have HIJ:=iH hi;clear hd hld hldc hi hik;have hjn:(j:Int)<(m:Int):=by omega
  refine wp_region_held_drew (S:=λwy=>(wy.rangeAt g (j*12) (ccL d ld ldc)/\g<wy.heap.size)/\Below H1 w1 wy) (by kernel_rfl) ⟨⟨hrd,hgl.2⟩,hB.drew⟩ (λhS=>?_);replace HO:=iH (Ak HO (Below.refl _ wr).drew);replace hB:=hB.drew;clear hrd hgl;generalize wr.drew=wb at *;refine tz 0 23 (X j) ?_;refine tz 1 24 (sP g 0 m q) ?_;refine tz 2 25 (X m) ?_;refine x3 3 26 (.bool true) ?_;refine tz 4 27 (.bool true) ?_;refine tz 5 28 (sP g 0 m q) ?_;refine tz 6 29 (X j) ?_;refine x3 7 30 (pP g (j*12)) ?_;refine tm 8 31 g (j*12) (ccL d ld ldc) rfl (λ_ h=>h.1.1) underlying54 Bz hS ?_;refine tz 9 32 (pP w.heap.size 3) ?_;refine ty 10 ⟨some 33,_,_,_,_,some (4,true)⟩ (sP b3 o3 x.copies.length c3) ?_ ?_
  .intro wy hy
   have h0:=(HF1.out.below hy.2 (by have h9:=HH1.out;have h8:=HS1.out;omega)).2.2.2;clear hy;go_simp
  refine tz 11 34 (X k) ?_;refine x3 12 35 (pP b3 (o3+k*12)) ?_;refine tk 13 ⟨some 36,_,_,_,_,some (4,true)⟩ (.agg (ccA c la lc)) rfl (yieldsIf_load_mid (by rfl) _ _ rfl b3 (o3+k*12) rfl (ccL c la lc) _ (λ_ h=>HRC.out _ h.2) underlying54 rfl Bz) hS ?_;refine rd1 14 ⟨some 37,_,_,_,_,some (4,true)⟩ rfl (λK hK=>?_);go_simp;refine(pW d c ld ldc la lc _).mono ?_;rintro e we⟨rfl,hbe⟩;replace HO:=iH (Ak HO hbe);replace hB:=hB.trans (hbe.mono (by have h9:=HH1.out;have h8:=hB.size;omega));refine hK.out _ _ ⟨⟨λt u ht=>(hbe.cell (p:=(E g (j*12+t))) hS.1.2).trans (hS.1.1 t u ht),lL hS.1.2 hbe.size⟩,hB⟩ (λhS=>?_);clear hK K;clear hbe;generalize we=wb at *;cases hah:ahW d c
  case' false =>
   have HID:Hid (Ol (ltF (cfQ x)) L k=L.take j++k::L.drop j):=bG (by have:=HLL.out;omega) HA (λb hb=>by rw[HIJ.out]at hb;cases hb;rw[HAH.out,hah]);clear HIJ HAH hah
  case true =>
   have HA2:Hid (∀a∈L.take (j+1),ltF (cfQ x) a k=true):=by
    intro b hb;rw[List.take_add_one,HIJ.out]at hb;rcases List.mem_append.1 hb with h|h
    .exact HA.out b h
    .simp at h
     rw[h,HAH.out,hah]
   clear HA HIJ HAH hah;refine tz 15 38 (.bool true) ?_;refine td ?_;clear hS
   go_wp2
   go_roundw
   case rel=>exact⟨j+1,by omega,by go_num,HA2,HO,hB⟩
   case measure=>simp[intOf];omega
 all_goals
  refine tz 15 38 (.bool false) ?_;refine td ?_;clear hS;go_upto_region 9 with fail;refine wp_region_held_drew (S:=λwy=>Below H1 w1 wy) (by kernel_rfl) hB.drew (λhS=>?_);have HO7:=iH (Ak HO (Below.refl _ wb).drew);have hB7:=hB.drew;clear HO hB;generalize wb.drew=wn at *;obtain⟨h0,hh0⟩:∃h0,h0=wn.heap.size:=⟨_,rfl⟩;have hh:h0<=wn.heap.size:=by omega
  have hgo:g<h0:=by have h9:=(HO7.out.lt g rfl).2;omega
  have hH0:H1<=h0:=by have h9:=(HO7.out.lt g rfl).1;omega
  clear hh0;refine tz 1 42 (sP g 0 m q) ?_;refine tz 2 43 (X j) ?_;refine x3 3 44 (sP g 0 j q) ?_;refine tz 5 46 (pP w.heap.size 3) ?_;refine ty 6 ⟨some 47,_,_,_,_,none⟩ (sP b3 o3 x.copies.length c3) ?_ ?_
  .intro wy hy
   have h0:=(HF1.out.below hy (by have h9:=HH1.out;have h8:=HS1.out;omega)).2.2.2;clear hy;go_simp
  refine tz 7 48 (X k) ?_;refine x3 8 49 (pP b3 (o3+k*12)) ?_;refine tk 9 ⟨some 50,_,_,_,_,none⟩ (.agg (ccA c la lc)) rfl (yieldsIf_load_mid (by rfl) _ _ rfl b3 (o3+k*12) rfl (ccL c la lc) _ (λ_ h=>HRC.out _ h) underlying54 rfl Bz) hS ?_;refine tz 12 53 (sP g 0 m q) ?_;refine tz 13 54 (X j) ?_;obtain⟨rb,hrb,HRB⟩:∃rb:Addr,(if q=j then some ((E g 0):Addr)else (O g (j*12)))=some rb/\Hid (∀wy:World,wy.ownsRow H1 54 12 (sP g 0 m q) m (rvQ x w b3 o3 L)->∀t u,(rvQ x w b3 o3 (L.drop j))[t]?=some u->wy.cell? (rb.add t)=some u):=by
   split
   .refine⟨_,rfl,λ_ _ t u h=>?_⟩
    have h9:L.drop j=[]:=List.drop_eq_nil_of_le (by have:=HLL.out;omega);rw[h9]at h;simp[rvQ]at h
   refine⟨_,rfl,λwy hy t u h=>?_⟩;rw[tT,List.getElem?_drop]at h;rw[Addr.add_mid];exact Js hy HLL.out.symm h
  refine ty 14 ⟨some 55,_,_,_,_,none⟩ (.slice (some rb) (m-j) (q-j)) ?_ ?_
  .intro wy hy
   clear hy
   (rw[<-hrb];go_simp;try omega)
  refine wpAnyH_ready (rs:=[0,10]) (by kernel_rfl) (by simp) (AllReadyH.cons (o:=⟨some 41,_,_,_,_,none⟩) rfl (λKK hKK=>?_) (AllReadyH.cons (o:=⟨some 51,_,_,_,_,none⟩) rfl (λKK hKK=>?_) AllReadyH.nil))
  case' _ =>
   skip;clear hS;go_simp;have hal:=(Below.refl _ wn).alloc nL (Obj.cells #[] 54);have HR:Hid ((wn.alloc (Obj.cells #[] 54)).ownsRow h0 54 12 (sP wn.heap.size 0 0 0) 0 []):=World.ownsRow_made wn #[] 0 hh (zL) rfl;have hg1:g≠wn.heap.size:=by omega
   replace HO7:=iH (HO7.out.alloc (Obj.cells #[] 54));replace hB7:=hB7.trans (hal.mono (by have h9:=HH1.out;have h8:=hB7.size;omega));replace hh:=lT hh hal.size;refine hKK.out _ _ hB7 (λhS=>?_);clear hKK KK hal;generalize wn.heap.size=g1 at *;generalize wn.alloc (Obj.cells #[] 54)=wn at *;refine wpAnyH_ready (rs:=[4,10]) (by kernel_rfl) (by simp) (AllReadyH.cons (o:=⟨some 45,_,_,_,_,none⟩) rfl (λKK hKK=>?_) (AllReadyH.cons (o:=⟨some 51,_,_,_,_,none⟩) rfl (λKK hKK=>?_) AllReadyH.nil))
   case' _ =>
    skip;clear hS;have HNN:Hid (∀t u,(rvQ x w b3 o3 (L.take j))[t]?=some u->wn.cell? (((E g 0):Addr).add t)=some u):=by
     intro t u hu;rw[Ub]at hu;rw[Addr.add_mid,Nat.zero_add];exact Js HO7 HLL.out.symm (Ve hu)
    have hgj:=(HR.out.lt g1 rfl).1;rw[if_pos (by rfl)];refine Gh (.tmp 41) (.tmp 44) 30 (by rfl) h0 54 i0 _ 12 160 underlying30 HI0 hz0 hz1 hz2 rfl (by decide) _ 0 _ (by rfl) HR (E g 0) j q (rvQ x w b3 o3 (L.take j)) (by rfl) (by have h9:=HLL.out;rw[Ge,List.length_take,Nat.min_eq_left (by omega)]) HNN (Ty _ _ _ _ _) (by unfold maxLen;omega) (by omega) hh ?_;intro v' wq hown hgrow hnil hblk;have hv:v'≠.slice none 0 0:=(λe=>by have h9:=(hnil.1 e).1;cases h9);rw[Nat.zero_add,List.nil_append]at hown;obtain⟨e1,q1,rfl⟩:=fP hown hv;have hgr:wn.grownBy wq (some g1):=hgrow;have hbe:e1=g1\/e1=wn.heap.size:=by
     rcases hblk with h9|h9
     .exact .inl (Option.some.inj h9)
     .exact .inr (Option.some.inj h9)
    have hge:e1≠g:=by have h9:=(HO7.out.lt g rfl).2;omega
    replace HO7:=iH (HO7.out.kept hgr (Or.inr (λe=>by have h9:g=g1:=Option.some.inj e;omega)));replace HR:=iH hown;replace hB7:=hB7.grown hgr (by have h9:=HH1.out;have h8:=hB7.size;omega) (λt e=>by cases e;omega);replace hh:=lT hh hgr.size;refine hKK.out _ _ hB7 (λhS=>?_);clear hKK KK hown hgrow hnil hblk hv hgr hbe hgj HNN;generalize wq=wn at *;refine rd1 10 ⟨some 51,_,_,_,_,none⟩ rfl (λKK hKK=>?_);clear hS;go_simp;have hal:=(Below.refl _ wn).alloc nL (Obj.cells (ccA c la lc) 54);have HK2:=iH (Blk.alloc wn (ccA c la lc) 54);have hn3:wn.heap.size≠g:=by omega
    have hn2:wn.heap.size≠e1:=by have h9:=(HR.out.lt e1 rfl).2;omega
    replace HR:=iH (HR.out.alloc (Obj.cells (ccA c la lc) 54));replace HO7:=iH (HO7.out.alloc (Obj.cells (ccA c la lc) 54));replace hB7:=hB7.trans (hal.mono (by have h9:=HH1.out;have h8:=hB7.size;omega));replace hh:=lT hh hal.size;refine hKK.out _ _ hB7 (λhS=>?_);clear hKK KK hal;generalize wn.heap.size=g2 at *;generalize wn.alloc (Obj.cells (ccA c la lc) 54)=wn at *
   rotate_left
   case' _ =>
    skip;clear hS;go_simp;have hal:=(Below.refl _ wn).alloc nL (Obj.cells (ccA c la lc) 54);have HK2:=iH (Blk.alloc wn (ccA c la lc) 54);have hn3:wn.heap.size≠g:=by omega
    have hn2:wn.heap.size≠g1:=by have h9:=(HR.out.lt g1 rfl).2;omega
    replace HR:=iH (HR.out.alloc (Obj.cells (ccA c la lc) 54));replace HO7:=iH (HO7.out.alloc (Obj.cells (ccA c la lc) 54));replace hB7:=hB7.trans (hal.mono (by have h9:=HH1.out;have h8:=hB7.size;omega));replace hh:=lT hh hal.size;refine hKK.out _ _ hB7 (λhS=>?_);clear hKK KK hal;generalize wn.heap.size=g2 at *;generalize wn.alloc (Obj.cells (ccA c la lc) 54)=wn at *;refine rd1 4 ⟨some 45,_,_,_,_,none⟩ rfl (λKK hKK=>?_);clear hS;have HNN:Hid (∀t u,(rvQ x w b3 o3 (L.take j))[t]?=some u->wn.cell? (((E g 0):Addr).add t)=some u):=by
     intro t u hu;rw[Ub]at hu;rw[Addr.add_mid,Nat.zero_add];exact Js HO7 HLL.out.symm (Ve hu)
    have hgj:=(HR.out.lt g1 rfl).1;rw[if_pos (by rfl)];refine Gh (.tmp 41) (.tmp 44) 30 (by rfl) h0 54 i0 _ 12 160 underlying30 HI0 hz0 hz1 hz2 rfl (by decide) _ 0 _ (by rfl) HR (E g 0) j q (rvQ x w b3 o3 (L.take j)) (by rfl) (by have h9:=HLL.out;rw[Ge,List.length_take,Nat.min_eq_left (by omega)]) HNN (Ty _ _ _ _ _) (by unfold maxLen;omega) (by omega) hh ?_;intro v' wq hown hgrow hnil hblk;have hv:v'≠.slice none 0 0:=(λe=>by have h9:=(hnil.1 e).1;cases h9);rw[Nat.zero_add,List.nil_append]at hown;obtain⟨e1,q1,rfl⟩:=fP hown hv;have hgr:wn.grownBy wq (some g1):=hgrow;have hbe:e1=g1\/e1=wn.heap.size:=by
     rcases hblk with h9|h9
     .exact .inl (Option.some.inj h9)
     .exact .inr (Option.some.inj h9)
    have hn4:e1≠g2:=by have h9:=HK2.out.lt;omega
    replace HK2:=iH (Xe HK2 hgr (by omega));have hge:e1≠g:=by have h9:=(HO7.out.lt g rfl).2;omega
    replace HO7:=iH (HO7.out.kept hgr (Or.inr (λe=>by have h9:g=g1:=Option.some.inj e;omega)));replace HR:=iH hown;replace hB7:=hB7.grown hgr (by have h9:=HH1.out;have h8:=hB7.size;omega) (λt e=>by cases e;omega);replace hh:=lT hh hgr.size;refine hKK.out _ _ hB7 (λhS=>?_);clear hKK KK hown hgrow hnil hblk hv hgr hbe hgj HNN;generalize wq=wn at *
   rotate_left
  rotate_left 2
  case' _ =>
   skip;clear hS;go_simp;have hal:=(Below.refl _ wn).alloc nL (Obj.cells (ccA c la lc) 54);have HK2:=iH (Blk.alloc wn (ccA c la lc) 54);have hn3:wn.heap.size≠g:=by omega
   replace HO7:=iH (HO7.out.alloc (Obj.cells (ccA c la lc) 54));replace hB7:=hB7.trans (hal.mono (by have h9:=HH1.out;have h8:=hB7.size;omega));replace hh:=lT hh hal.size;refine hKK.out _ _ hB7 (λhS=>?_);clear hKK KK hal;generalize wn.heap.size=g2 at *;generalize wn.alloc (Obj.cells (ccA c la lc) 54)=wn at *;refine rd1 0 ⟨some 41,_,_,_,_,none⟩ rfl (λKK hKK=>?_);clear hS;go_simp;have hal:=(Below.refl _ wn).alloc nL (Obj.cells #[] 54);have HR:Hid ((wn.alloc (Obj.cells #[] 54)).ownsRow h0 54 12 (sP wn.heap.size 0 0 0) 0 []):=World.ownsRow_made wn #[] 0 hh (zL) rfl;have hg1:g≠wn.heap.size:=by omega
   have hn2:g2≠wn.heap.size:=by have h9:=HK2.out.lt;omega
   replace HK2:=qBk HK2 hal;replace HO7:=iH (HO7.out.alloc (Obj.cells #[] 54));replace hB7:=hB7.trans (hal.mono (by have h9:=HH1.out;have h8:=hB7.size;omega));replace hh:=lT hh hal.size;refine hKK.out _ _ hB7 (λhS=>?_);clear hKK KK hal;generalize wn.heap.size=g1 at *;generalize wn.alloc (Obj.cells #[] 54)=wn at *;refine rd1 4 ⟨some 45,_,_,_,_,none⟩ rfl (λKK hKK=>?_);clear hS;have HNN:Hid (∀t u,(rvQ x w b3 o3 (L.take j))[t]?=some u->wn.cell? (((E g 0):Addr).add t)=some u):=by
    intro t u hu;rw[Ub]at hu;rw[Addr.add_mid,Nat.zero_add];exact Js HO7 HLL.out.symm (Ve hu)
   have hgj:=(HR.out.lt g1 rfl).1;rw[if_pos (by rfl)];refine Gh (.tmp 41) (.tmp 44) 30 (by rfl) h0 54 i0 _ 12 160 underlying30 HI0 hz0 hz1 hz2 rfl (by decide) _ 0 _ (by rfl) HR (E g 0) j q (rvQ x w b3 o3 (L.take j)) (by rfl) (by have h9:=HLL.out;rw[Ge,List.length_take,Nat.min_eq_left (by omega)]) HNN (Ty _ _ _ _ _) (by unfold maxLen;omega) (by omega) hh ?_;intro v' wq hown hgrow hnil hblk;have hv:v'≠.slice none 0 0:=(λe=>by have h9:=(hnil.1 e).1;cases h9);rw[Nat.zero_add,List.nil_append]at hown;obtain⟨e1,q1,rfl⟩:=fP hown hv;have hgr:wn.grownBy wq (some g1):=hgrow;have hbe:e1=g1\/e1=wn.heap.size:=by
    rcases hblk with h9|h9
    .exact .inl (Option.some.inj h9)
    .exact .inr (Option.some.inj h9)
   have hn4:e1≠g2:=by have h9:=HK2.out.lt;omega
   replace HK2:=iH (Xe HK2 hgr (by omega));have hge:e1≠g:=by have h9:=(HO7.out.lt g rfl).2;omega
   replace HO7:=iH (HO7.out.kept hgr (Or.inr (λe=>by have h9:g=g1:=Option.some.inj e;omega)));replace HR:=iH hown;replace hB7:=hB7.grown hgr (by have h9:=HH1.out;have h8:=hB7.size;omega) (λt e=>by cases e;omega);replace hh:=lT hh hgr.size;refine hKK.out _ _ hB7 (λhS=>?_);clear hKK KK hown hgrow hnil hblk hv hgr hbe hgj HNN;generalize wq=wn at *
  rotate_left
  all_goals
   refine rd1 11 ⟨some 52,_,_,_,_,none⟩ rfl (λKK hKK=>?_);clear hS;have HNN:Hid (∀t u,((ccL c la lc):List Value)[t]?=some u->wn.cell? (((E g2 0):Addr).add t)=some u):=λt u hu=>by
    rw[Addr.add_mid,Nat.zero_add];exact HK2.out.cell ((List.getElem?_toArray ..).trans hu)
   have hgj:=(HR.out.lt e1 rfl).1;rw[if_pos (by rfl)];refine Gh (.tmp 45) (.tmp 51) 30 (by rfl) h0 54 i0 _ 12 160 underlying30 HI0 hz0 hz1 hz2 rfl (by decide) _ j _ (by rfl) HR (E g2 0) 1 1 (ccL c la lc) (by rfl) rfl HNN (by have h9:=lH x w b3 o3 k;rw[HVC.out]at h9;exact h9) (by unfold maxLen;omega) (by omega) hh ?_;intro v' wq hown hgrow hnil hblk;have hv:v'≠.slice none 0 0:=(λe=>by have h9:=(hnil.1 e).1;cases h9);skip;obtain⟨e2,q2,rfl⟩:=fP hown hv;have hgr:wn.grownBy wq (some e1):=hgrow;have hbe:e2=e1\/e2=wn.heap.size:=by
    rcases hblk with h9|h9
    .exact .inl (Option.some.inj h9)
    exact .inr (Option.some.inj h9)
   have hge:e2≠g:=by have h9:=(HO7.out.lt g rfl).2;omega
   replace HO7:=iH (HO7.out.kept hgr (Or.inr (λe=>by have h9:g=e1:=Option.some.inj e;omega)));replace HR:=iH hown;replace hB7:=hB7.grown hgr (by have h9:=HH1.out;have h8:=hB7.size;omega) (λt e=>by cases e;omega);replace hh:=lT hh hgr.size;refine hKK.out _ _ hB7 (λhS=>?_);clear hKK KK hown hgrow hnil hblk hv hgr hbe hgj HNN;generalize wq=wn at *;refine rd1 15 ⟨some 56,_,_,_,_,none⟩ rfl (λKK hKK=>?_);clear hS;have HNN:Hid (∀t u,(rvQ x w b3 o3 (L.drop j))[t]?=some u->wn.cell? (rb.add t)=some u):=HRB.out _ HO7;have hgj:=(HR.out.lt e2 rfl).1;rw[if_pos (by rfl)];refine Gh (.tmp 52) (.tmp 55) 30 (by rfl) h0 54 i0 _ 12 160 underlying30 HI0 hz0 hz1 hz2 rfl (by decide) _ (j+1) _ (by rfl) HR rb (m-j) (q-j) (rvQ x w b3 o3 (L.drop j)) (by rfl) (by have h9:=HLL.out;rw[Ge,List.length_drop,h9]) HNN (Ty _ _ _ _ _) (by unfold maxLen;omega) (by omega) hh ?_;intro v' wq hown hgrow hnil hblk;have hv:v'≠.slice none 0 0:=(λe=>by have h9:=(hnil.1 e).1;cases h9);skip;obtain⟨e3,q3,rfl⟩:=fP hown hv;have hgr:wn.grownBy wq (some e2):=hgrow;have hbe:e3=e2\/e3=wn.heap.size:=by
    rcases hblk with h9|h9
    .exact .inl (Option.some.inj h9)
    exact .inr (Option.some.inj h9)
   have hge:e3≠g:=by have h9:=(HO7.out.lt g rfl).2;omega
   replace HO7:=iH (HO7.out.kept hgr (Or.inr (λe=>by have h9:g=e2:=Option.some.inj e;omega)));replace HR:=iH hown;replace hB7:=hB7.grown hgr (by have h9:=HH1.out;have h8:=hB7.size;omega) (λt e=>by cases e;omega);replace hh:=lT hh hgr.size;refine hKK.out _ _ hB7 (λhS=>?_);clear hKK KK hown hgrow hnil hblk hv hgr hbe hgj HNN;generalize wq=wn at *;have hke:j+1+(m-j)=m+1:=by omega
   have HR9:Hid (wn.ownsRow H1 54 12 (sP e3 0 (m+1) q3) (m+1) (rvQ x w b3 o3 (Ol (ltF (cfQ x)) L k))):=by
    have h9:=uS HR hH0;rw[hke]at h9;rw[HID.out,bH];show World.ownsRow _ _ _ _ _ _ (rvQ x w b3 o3 (L.take j)++(vcQ x w b3 o3 k++rvQ x w b3 o3 (L.drop j)))
    rw[HVC.out,<-List.append_assoc];exact h9
   rw[hke];refine tz 16 3 (sP e3 0 (m+1) q3) ?_;refine td ?_;clear hS;have HLN:Hid ((Ol (ltF (cfQ x)) L k).length=m+1):=by show _=_;rw[(Rj _ _ _).length_eq,List.length_append,HLL.out];rfl
   clear HR HO7 HLL HRB HID HA
   go_wp2
   go_roundw
   case rel=>exact⟨k+1,e3,q3,m+1,Ol (ltF (cfQ x)) L k,by omega,by omega,by go_num,rfl,HSN.out.symm,HLN,HR9,hB7⟩
   case measure=>simp[intOf];omega
end Go.Proofs.YthboopnmbglkjaaGreat
