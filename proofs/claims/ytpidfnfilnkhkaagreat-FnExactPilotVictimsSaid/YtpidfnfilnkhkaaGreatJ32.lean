import Derived.Test.YtpidfnfilnkhkaaGreatJ31
set_option maxHeartbeats 8000000
namespace Go.Proofs.YtpidfnfilnkhkaaGreat
open Tryz
set_option maxRecDepth 100000
open Go.RowKit Tryz
theorem eL(x:Brt)(a2:OA)(c2 lo:Nat)(w:World)(n2:SliceC StrC 1 lo w a2 x.marks)(hl:x.marks.length<=1048576) :
  Calls prog 96 #[.agg (bbA x a2 c2)] w λe w'=>∃g q,e=.returned (.agg (bbA x (some ⟨g,0,none⟩) q))/\SliceC StrC 1 w.heap.size w' (some ⟨g,0,none⟩) x.marks/\w.heap.size<=g/\g<w'.heap.size/\Below w.heap.size w w':=by
 obtain⟨i0,hi,hz0,hz1,hz2⟩:=info_parts Hd;have HI:=iH n2;clear n2;have h1:=Blk.alloc w (bbA x a2 c2) 52;have HZ2:=al2 w (bbA x a2 c2) 52 BbA 52;have HK2:=iH (h1.below ((Below.refl _ _).alloc nL (Obj.cells BbA 52)) h1.lt);have hB2:=bl2 w (bbA x a2 c2) 52 BbA 52;clear h1;go_enter func96,ntmps96;go_upto_region 1 with fail;generalize((w.alloc (Obj.cells (bbA x a2 c2) 52)).alloc (Obj.cells BbA 52))=w2 at *;have k5:(w2.alloc (Obj.cells #[] 9)).cell? ⟨w.heap.size,2,none⟩=some (.slice a2 x.marks.length c2):=(World.cell?_alloc_lt _ _ _ HK2.out.lt).trans (HK2.out.cell rfl);have hba:=(Below.refl _ w2).alloc nL (Obj.cells #[] 9);have HS5:=iH (HI.out.below StrC.holds (qTr hB2 hba) nL);have hgl:w.heap.size+1<w2.heap.size:=HZ2.out.lt;clear hba;go_upto_region 2 with(at_builtin;refine Hh rfl _ _ 28 rfl w2.heap.size 9 i0 _ 1 16 underlying28 hi hz0 hz1 hz2 rfl (by decide) _ _ _ rfl (World.ownsRow_made w2 #[] 0 nL (zL) rfl) a2 x.marks.length c2 (He x.marks) rfl HS5.out.nilD (by rw[nD]) (tF HS5) (pT x.marks) (by unfold maxLen;omega) (by omega) (by simp) ?_;intro v' w3 hown hgrow hnil;have hv:v'≠.slice none 0 0:=(λe=>by have h9:=(hnil.1 e).1;cases h9);have hown':w3.ownsRow w2.heap.size 9 1 v' x.marks.length (He x.marks):=(by simpa using hown);obtain⟨g,q,rfl⟩:=pJ hown' hv;have HOW:=iH hown';have HBB:Hid (Below w2.heap.size w2 w3):=((Below.refl _ w2).alloc nL _).grown hgrow (by simp) (by intro k hk;cases hk;exact Nat.le_refl _);have HK3:=iH (HK2.out.below HBB HK2.out.lt);have kx:w3.cell? ⟨w.heap.size,2,none⟩=some (.slice a2 x.marks.length c2):=HK3.out.cell rfl;have fx:=HK3.out.frozen 2;clear hown hown' hgrow hnil hv);clear kx fx k5 HS5;obtain⟨h5,hh5⟩:∃h,h=w2.heap.size:=⟨_,rfl⟩;have P5:Hid (SliceC StrC 1 h5 w3 (some ⟨g,0,none⟩) x.marks):=by rw[hh5];exact Px HOW hl (dG HI)
 have hlt5:w.heap.size+1<h5:=by rw[hh5];exact hgl
 have hgg:=HOW.out.lt g rfl;have hg5:h5<=g:=by rw[hh5];exact hgg.1
 have HZ3:=iH (HZ2.out.below HBB HZ2.out.lt);have hB3:=hB2.trans (HBB.out.mono hB2.size);clear HOW HBB HK2 HZ2 hB2 hgl hh5;have HK4:Hid (Blk w.heap.size (bbA x (some ⟨g,0,none⟩) q) 52 (w3.setCell ⟨w.heap.size,2,none⟩ (.slice (some ⟨g,0,none⟩) x.marks.length q))):=HK3.out.set 2 _;have HZ4:Hid (Blk (w.heap.size+1) BbA 52 (w3.setCell ⟨w.heap.size,2,none⟩ (.slice (some ⟨g,0,none⟩) x.marks.length q))):=HZ3.out.other (a:=⟨w.heap.size,2,none⟩) (show w.heap.size+1≠w.heap.size by omega) _;have hB4:Below w.heap.size w (w3.setCell ⟨w.heap.size,2,none⟩ (.slice (some ⟨g,0,none⟩) x.marks.length q)):=hB3.setCell (p:=⟨w.heap.size,2,none⟩) nL _;replace P5:Hid (SliceC StrC 1 h5 (w3.setCell ⟨w.heap.size,2,none⟩ (.slice (some ⟨g,0,none⟩) x.marks.length q)) (some ⟨g,0,none⟩) x.marks):=P5.out.keep StrC.holds (Keeps.set (a:=⟨w.heap.size,2,none⟩) (show w.heap.size<h5 by omega) _) nL;have hsz:(w3.setCell ⟨w.heap.size,2,none⟩ (.slice (some ⟨g,0,none⟩) x.marks.length q)).heap.size=w3.heap.size:=by simp[World.setCell]
 have hgs:g<(w3.setCell ⟨w.heap.size,2,none⟩ (.slice (some ⟨g,0,none⟩) x.marks.length q)).heap.size:=by rw[hsz];exact hgg.2
 clear HK3 HZ3 hB3 hsz hgg;generalize(w3.setCell ⟨w.heap.size,2,none⟩ (.slice (some ⟨g,0,none⟩) x.marks.length q))=w4 at *;obtain⟨wf,HE⟩:∃wf,Hid (wf=w4.setCells (w.heap.size+1) 0 (bbL x (some ⟨g,0,none⟩) q)):=⟨_,rfl⟩;have HTS:Hid (w4.there (w.heap.size+1) 0 6):=HZ4.out.there;have HRf:Hid (wf.rangeAt (w.heap.size+1) 0 (bbL x (some ⟨g,0,none⟩) q)):=by
  show World.rangeAt _ _ _ _
  rw[HE.out];exact World.rangeAt_setCells_same w4 (w.heap.size+1) 0 _ HTS
 have hBf:Below w.heap.size w wf:=by
  rw[HE.out];exact Aj (by omega) _ _ _ hB4
 replace P5:Hid (SliceC StrC 1 h5 wf (some ⟨g,0,none⟩) x.marks):=by
  show SliceC _ _ _ _ _ _
  rw[HE.out];exact P5.out.keep StrC.holds (Keeps.setCells (show w.heap.size+1<h5 by omega) _ _ _) nL
 have hgf:g<wf.heap.size:=by rw[HE.out,Az];exact hgs
 clear hB4 HZ4 hgs;go_wp2_with(first|(refine qLk Nz HK4 ?_)|(refine An rfl 52 _ _ rfl (w.heap.size+1) 0 (bbA x (some ⟨g,0,none⟩) q) rfl rfl HTS Dl (by simp[Value.oneCell']) wf HE ?_));exact bodyPost_ret (Bi rfl _ _ (w.heap.size+1) (bbL x (some ⟨g,0,none⟩) q) _ rfl HRf underlying52 rfl Dl) rfl ⟨g,q,rfl,P5.out.keep StrC.holds (Keeps.refl _ _) (by omega),by omega,hgf,hBf⟩
theorem iI(x:Cpy)(a2:OA)(c2 lo:Nat)(w:World)(n2:SliceC LikC 2 lo w a2 x.likes)(hl:x.likes.length<=1048576) :
  Calls prog 97 #[.agg (ccA x a2 c2)] w λe w'=>∃g q,e=.returned (.agg (ccA x (some ⟨g,0,none⟩) q))/\SliceC LikC 2 w.heap.size w' (some ⟨g,0,none⟩) x.likes/\w.heap.size<=g/\g<w'.heap.size/\Below w.heap.size w w':=by
 obtain⟨i0,hi,hz0,hz1,hz2⟩:=info_parts fA;have HI:=iH n2;clear n2;have h1:=Blk.alloc w (ccA x a2 c2) 49;have HZ2:=al2 w (ccA x a2 c2) 49 CcA 49;have HK2:=iH (h1.below ((Below.refl _ _).alloc nL (Obj.cells CcA 49)) h1.lt);have hB2:=bl2 w (ccA x a2 c2) 49 CcA 49;clear h1;go_enter func97,ntmps97;go_upto_region 1 with fail;generalize((w.alloc (Obj.cells (ccA x a2 c2) 49)).alloc (Obj.cells CcA 49))=w2 at *;have k5:(w2.alloc (Obj.cells #[] 127)).cell? ⟨w.heap.size,7,none⟩=some (.slice a2 x.likes.length c2):=(World.cell?_alloc_lt _ _ _ HK2.out.lt).trans (HK2.out.cell rfl);have hba:=(Below.refl _ w2).alloc nL (Obj.cells #[] 127);have HS5:=iH (HI.out.below LikC.holds (qTr hB2 hba) nL);have hgl:w.heap.size+1<w2.heap.size:=HZ2.out.lt;clear hba;go_upto_region 2 with(at_builtin;refine Hh rfl _ _ 47 rfl w2.heap.size 127 i0 _ 2 24 underlying47 hi hz0 hz1 hz2 rfl (by decide) _ _ _ rfl (World.ownsRow_made w2 #[] 0 nL (zL) rfl) a2 x.likes.length c2 (Kf x.likes) rfl HS5.out.nilD (by rw[Qj]) (tB HS5) (Xr x.likes) (by unfold maxLen;omega) (by omega) (by simp) ?_;intro v' w3 hown hgrow hnil;have hv:v'≠.slice none 0 0:=(λe=>by have h9:=(hnil.1 e).1;cases h9);have hown':w3.ownsRow w2.heap.size 127 2 v' x.likes.length (Kf x.likes):=(by simpa using hown);obtain⟨g,q,rfl⟩:=pJ hown' hv;have HOW:=iH hown';have HBB:Hid (Below w2.heap.size w2 w3):=((Below.refl _ w2).alloc nL _).grown hgrow (by simp) (by intro k hk;cases hk;exact Nat.le_refl _);have HK3:=iH (HK2.out.below HBB HK2.out.lt);have kx:w3.cell? ⟨w.heap.size,7,none⟩=some (.slice a2 x.likes.length c2):=HK3.out.cell rfl;have fx:=HK3.out.frozen 7;clear hown hown' hgrow hnil hv);clear kx fx k5 HS5;obtain⟨h5,hh5⟩:∃h,h=w2.heap.size:=⟨_,rfl⟩;have P5:Hid (SliceC LikC 2 h5 w3 (some ⟨g,0,none⟩) x.likes):=by rw[hh5];exact tP HOW hl (cF HI)
 have hlt5:w.heap.size+1<h5:=by rw[hh5];exact hgl
 have hgg:=HOW.out.lt g rfl;have hg5:h5<=g:=by rw[hh5];exact hgg.1
 have HZ3:=iH (HZ2.out.below HBB HZ2.out.lt);have hB3:=hB2.trans (HBB.out.mono hB2.size);clear HOW HBB HK2 HZ2 hB2 hgl hh5;have HK4:Hid (Blk w.heap.size (ccA x (some ⟨g,0,none⟩) q) 49 (w3.setCell ⟨w.heap.size,7,none⟩ (.slice (some ⟨g,0,none⟩) x.likes.length q))):=HK3.out.set 7 _;have HZ4:Hid (Blk (w.heap.size+1) CcA 49 (w3.setCell ⟨w.heap.size,7,none⟩ (.slice (some ⟨g,0,none⟩) x.likes.length q))):=HZ3.out.other (a:=⟨w.heap.size,7,none⟩) (show w.heap.size+1≠w.heap.size by omega) _;have hB4:Below w.heap.size w (w3.setCell ⟨w.heap.size,7,none⟩ (.slice (some ⟨g,0,none⟩) x.likes.length q)):=hB3.setCell (p:=⟨w.heap.size,7,none⟩) nL _;replace P5:Hid (SliceC LikC 2 h5 (w3.setCell ⟨w.heap.size,7,none⟩ (.slice (some ⟨g,0,none⟩) x.likes.length q)) (some ⟨g,0,none⟩) x.likes):=P5.out.keep LikC.holds (Keeps.set (a:=⟨w.heap.size,7,none⟩) (show w.heap.size<h5 by omega) _) nL;have hsz:(w3.setCell ⟨w.heap.size,7,none⟩ (.slice (some ⟨g,0,none⟩) x.likes.length q)).heap.size=w3.heap.size:=by simp[World.setCell]
 have hgs:g<(w3.setCell ⟨w.heap.size,7,none⟩ (.slice (some ⟨g,0,none⟩) x.likes.length q)).heap.size:=by rw[hsz];exact hgg.2
 clear HK3 HZ3 hB3 hsz hgg;generalize(w3.setCell ⟨w.heap.size,7,none⟩ (.slice (some ⟨g,0,none⟩) x.likes.length q))=w4 at *;obtain⟨wf,HE⟩:∃wf,Hid (wf=w4.setCells (w.heap.size+1) 0 (ccL x (some ⟨g,0,none⟩) q)):=⟨_,rfl⟩;have HTS:Hid (w4.there (w.heap.size+1) 0 12):=HZ4.out.there;have HRf:Hid (wf.rangeAt (w.heap.size+1) 0 (ccL x (some ⟨g,0,none⟩) q)):=by
  show World.rangeAt _ _ _ _
  rw[HE.out];exact World.rangeAt_setCells_same w4 (w.heap.size+1) 0 _ HTS
 have hBf:Below w.heap.size w wf:=by
  rw[HE.out];exact Aj (by omega) _ _ _ hB4
 replace P5:Hid (SliceC LikC 2 h5 wf (some ⟨g,0,none⟩) x.likes):=by
  show SliceC _ _ _ _ _ _
  rw[HE.out];exact P5.out.keep LikC.holds (Keeps.setCells (show w.heap.size+1<h5 by omega) _ _ _) nL
 have hgf:g<wf.heap.size:=by rw[HE.out,Az];exact hgs
 clear hB4 HZ4 hgs;go_wp2_with(first|(refine qLk Jg HK4 ?_)|(refine An rfl 49 _ _ rfl (w.heap.size+1) 0 (ccA x (some ⟨g,0,none⟩) q) rfl rfl HTS Dk (by simp[Value.oneCell']) wf HE ?_));exact bodyPost_ret (Bi rfl _ _ (w.heap.size+1) (ccL x (some ⟨g,0,none⟩) q) _ rfl HRf underlying49 rfl Dk) rfl ⟨g,q,rfl,P5.out.keep LikC.holds (Keeps.refl _ _) (by omega),by omega,hgf,hBf⟩
def FlatC{β:Type}(C:En β)(m:Nat):Prop:=∀(lo lo':Nat)(w w':World)(f g:Nat->Option Value)(x:β),(∀i,i<m->g i=f i)->C lo w f x->C lo' w' g x
theorem FlatC.holds{β:Type}{C:En β}{m:Nat}(h:FlatC C m):Holds C m:=λlo lo' w w' f g x hf _ _ hc=>h lo lo' w w' f g x hf hc
theorem StrC.flat:FlatC StrC 1:=λ_ _ _ _ _ _ _ h c=>⟨(h 0 (by omega)).trans c.1,c.2⟩
theorem LikC.flat:FlatC LikC 2:=λ_ _ _ _ _ _ _ h ⟨q0,q1,z⟩=>⟨(h 0 (by omega)).trans q0,(h 1 (by omega)).trans q1,z⟩
theorem Ce{β:Type}{C:En β}{m:Nat}(hC:FlatC C m){lo:Nat}{w w':World}{row:Option Nat}{a:OA}{l:List β}(h:SliceC C m lo w a l)(hg:w.grownBy w' row)(hne:∀b o,a=some ⟨b,o,none⟩->l≠[]->some b≠row):SliceC C m lo w' a l:=by
 obtain⟨h1,h2⟩:=h;rcases h2 with e|⟨b,o,ea,⟨hlo,hfz⟩,hbl,hc⟩
 .exact⟨h1,.inl e⟩
 .by_cases hl:l=[]
  .exact⟨h1,.inl hl⟩
  .have hn:=hne b o ea hl
   exact⟨h1,.inr ⟨b,o,ea,⟨hlo,λhp p=>(hg.frozen_far ⟨b,p,none⟩ hbl hn).trans (hfz hp p)⟩,lL hbl hg.size,λj x hj=>hC lo lo w w' _ _ x (λi _=>hg.cell_far ⟨b,o+j*m+i,none⟩ hbl hn) (hc j x hj)⟩⟩
theorem Jv{base base':Nat}{e:TypeId}{size:Nat}{v:Value}{n:Nat}{xs:List Value}{w:World}(h:w.ownsRow base e size v n xs)(hb:base'<=base):w.ownsRow base' e size v n xs:=by
 refine⟨h.1,?_⟩;rcases h.2 with h1|⟨g,cap,cur,h1,h2,h3⟩
 .exact .inl h1
 .exact .inr ⟨g,cap,cur,h1,lT hb h2,h3⟩
theorem Jl{P:Program}{op:Oper}{a:Act}{w:World}{K:Act->World->Prop}{Q:Exit->Act->World->Prop}(s x:Operand)(t:TypeId)(ho:op.op=.call {callee:=.builtin .append,args:=#[s,x],argTypes:=#[t,t]})(base:Nat)(e:TypeId)(i:TypeInfo)(z:Value)(size bytes:Nat)(ht:P.underlying t=some (.slice e))(hi:P.info? e=some i)(hz:i.zero=some z)(hsize:i.size=size)(hby:i.bytes=bytes)(hzs:z.cells.size=size)(hsz:0<size)(v:Value)(n:Nat)(xs:List Value)(hs:a.eval s=v)(hown:w.ownsRow base e size v n xs)(ad:Addr)(m c:Nat)(news:List Value)(hx:a.eval x=.slice (some ad) m c)(hl:news.length=m*size)(hnews:∀j u,news[j]?=some u->w.cell? (ad.add j)=some u)(h1:∀u∈news,u.oneCell'=true)(h63:n+m<=maxLen)(hbytes:(n+m)*bytes<=140737488355328)(hbase:base<=w.heap.size)(h:∀v' w',w'.ownsRow base e size v' (n+m) (xs++news)->w.grownBy w' v.ownBlock->(v'=.slice none 0 0↔v=.slice none 0 0/\m=0)->(v'.ownBlock=v.ownBlock\/v'.ownBlock=some w.heap.size)->K (a.put op.dst v') w'):op.wp P a w K Q:=by
 obtain⟨v',w',hr,h2,h3,h4,h5⟩:=run_append_own_at (P:=P) w base t op.type e i z size bytes ht hi hz hsize hby hzs hsz v n xs hown ad m c news hl hnews h1 h63 hbytes hbase;unfold Oper.wp;simp[execOp,ho,resolve,invoke,builtin,hs,hx,hr,Result.andThen];exact h v' w' h2 h3 h4 h5
theorem Dq(w:World)(a:Addr)(v:Value):w.grownBy (w.setCell a v) (some a.block) :=
 ⟨rfl,rfl,rfl,by simp[World.setCell],λk _ hn=>Below.heap_setCell w a v k (λe=>hn (by rw[e]))⟩
theorem Ej{b:Nat}:∀(vs:List Value)(o:Nat)(w:World),w.grownBy (w.setCells b o vs) (some b)
 |[],_,_=>⟨rfl,rfl,rfl,Nat.le_refl _,λ_ _ _=>rfl⟩
 |v::r,o,w=>(Dq w ⟨b,o,none⟩ v).trans (Ej r (o+1) _)
section
variable {α β:Type} {V:α->Value->List Value} {sub:α->List β} {C:En β} {m n:Nat}
def NAt(V:α->Value->List Value)(sub:α->List β)(C:En β)(m n base:Nat)(v:Value)(w:World)(cs:List Value)(l:List α):Prop :=
 ∀j x,l[j]?=some x->∃(ae:OA)(ce:Nat),(∀i u,(V x (.slice ae (sub x).length ce))[i]?=some u->cs[j*n+i]?=some u)/\SliceC C m base w ae (sub x)/\∀b o,ae=some ⟨b,o,none⟩->sub x≠[]->some b≠v.ownBlock/\b<w.heap.size
def OwnN(V:α->Value->List Value)(sub:α->List β)(C:En β)(m n:Nat)(T:TypeId)(base:Nat)(w:World)(v:Value)(l:List α):Prop :=
 ∃cs,w.ownsRow base T n v l.length cs/\NAt V sub C m n base v w cs l
theorem OwnN.nil{T:TypeId}{base:Nat}{w:World}:OwnN V sub C m n T base w (.slice none 0 0) []:=⟨[],World.ownsRow_nil _ _ _ _,λj x h=>by cases h⟩
theorem OwnN.below{T:TypeId}{base:Nat}{w w':World}{v:Value}{l:List α}(hC:Holds C m)(h:OwnN V sub C m n T base w v l)(hb:Below w.heap.size w w'):OwnN V sub C m n T base w' v l:=by
 obtain⟨cs,h1,h2⟩:=h;refine⟨cs,Ak h1 hb,λj x hj=>?_⟩;obtain⟨ae,ce,q1,q2,q3⟩:=h2 j x hj;exact⟨ae,ce,q1,q2.below hC hb nL,λb o e hn=>⟨(q3 b o e hn).1,lL (q3 b o e hn).2 hb.size⟩⟩
theorem OwnN.kept{T:TypeId}{base:Nat}{w w':World}{v:Value}{l:List α}{row:Option Nat}(hC:FlatC C m)(h:OwnN V sub C m n T base w v l)(hg:w.grownBy w' row)(hr:∀r,row=some r->r<base):OwnN V sub C m n T base w' v l:=by
 obtain⟨cs,h1,h2⟩:=h;have hv:v.ownBlock=none\/v.ownBlock≠row:=by
  cases e:v.ownBlock with
  |none=>exact .inl rfl
  |some k =>
   refine .inr (λe2=>?_);have:=(h1.lt k e).1;have:=hr k e2.symm;omega
 refine⟨cs,h1.kept hg hv,λj x hj=>?_⟩;obtain⟨ae,ce,q1,q2,q3⟩:=h2 j x hj;refine⟨ae,ce,q1,Ce hC q2 hg (λb o e hn e2=>?_),λb o e hn=>⟨(q3 b o e hn).1,lL (q3 b o e hn).2 hg.size⟩⟩;have hb:=hr b e2.symm;rcases q2.2 with h9|⟨b',o',e',⟨hlo,_⟩,_⟩
 .exact hn h9
 .rw[e]at e'
  cases e'
  omega
theorem OwnN.mono{T:TypeId}{base base':Nat}{w:World}{v:Value}{l:List α}(hC:Holds C m)(h:OwnN V sub C m n T base w v l)(hb:base'<=base):OwnN V sub C m n T base' w v l:=by
 obtain⟨cs,h1,h2⟩:=h;refine⟨cs,Jv h1 hb,λj x hj=>?_⟩;obtain⟨ae,ce,q1,q2,q3⟩:=h2 j x hj;exact⟨ae,ce,q1,q2.keep hC (Keeps.refl _ _) hb,q3⟩
theorem OwnN.snoc{T:TypeId}{base:Nat}{w w':World}{v v':Value}{l:List α}{x:α}{ae:OA}{ce:Nat}{cs:List Value}(hC:FlatC C m)(h1:w.ownsRow base T n v l.length cs)(h2:NAt V sub C m n base v w cs l)(hV:∀x s,(V x s).length=n)(hs:SliceC C m base w ae (sub x))(hb:∀b o,ae=some ⟨b,o,none⟩->sub x≠[]->some b≠v.ownBlock/\b<w.heap.size)(ho:w'.ownsRow base T n v' (l.length+1) (cs++V x (.slice ae (sub x).length ce)))(hg:w.grownBy w' v.ownBlock)(hv:v'.ownBlock=v.ownBlock\/v'.ownBlock=some w.heap.size):OwnN V sub C m n T base w' v' (l++[x]):=by
 have far:∀b:Nat,some b≠v.ownBlock/\b<w.heap.size->some b≠v'.ownBlock/\b<w'.heap.size:=by
  intro b hb;refine⟨?_,lL hb.2 hg.size⟩;rcases hv with e|e
  .rw[e];exact hb.1
  .rw[e];intro e2;cases e2;omega
 have hl:cs.length=l.length*n:=h1.1;refine⟨_,by simpa using ho,λj c hj=>?_⟩;by_cases hlt:j<l.length
 .rw[List.getElem?_append_left hlt]at hj
  obtain⟨ae',ce',q1,q2,q3⟩:=h2 j c hj;refine⟨ae',ce',λi u hu=>?_,Ce hC q2 hg (λb o e hn=>(q3 b o e hn).1),λb o e hn=>far b (q3 b o e hn)⟩;have hi:i<n:=by have:=Ac hu;rwa [hV]at this
  have:(j+1)*n<=l.length*n:=Nat.mul_le_mul_right n (by omega);rw[Nat.add_mul]at this;rw[List.getElem?_append_left (by rw[hl];omega)];exact q1 i u hu
 .have hje:j=l.length:=by have:=Ac hj;simp at this;omega
  subst hje;simp at hj;subst hj;refine⟨ae,ce,λi u hu=>?_,Ce hC hs hg (λb o e hn=>(hb b o e hn).1),λb o e hn=>far b (hb b o e hn)⟩;rw[List.getElem?_append_right (by rw[hl];omega),hl,Nat.add_sub_cancel_left];exact hu
theorem OwnN.slice{XC:En α}{T:TypeId}{base:Nat}{w:World}{a:OA}{q:Nat}{l:List α}(h:OwnN V sub C m n T base w (.slice a l.length q) l)(hV:∀x s,(V x s).length=n)(hm:l.length<=maxLen)(hX:∀(f:Nat->Option Value) (x:α) (ae:OA) (ce:Nat),x∈l->(∀i u,(V x (.slice ae (sub x).length ce))[i]?=some u->f i=some u)->SliceC C m base w ae (sub x)->XC base w f x):SliceC XC n base w a l:=by
 obtain⟨cs,h1,h2⟩:=h;rcases h1.2 with⟨hv,_⟩|⟨g,cap,cur,hv,hb,hg,_⟩
 .have:l.length=0:=by injection hv
  rw[List.length_eq_zero_iff.1 this];exact SliceC.nil
 .have ea:a=some ⟨g,0,none⟩:=by injection hv
  subst ea;refine⟨hm,.inr ⟨g,0,rfl,⟨hb,λ_ p=>h1.frozenAt p⟩,(Array.getElem?_eq_some_iff.1 hg).1,λj x hj=>?_⟩⟩;have hlt:=Ac hj;obtain⟨ae,ce,q1,q2,_⟩:=h2 j x hj;refine hX _ x ae ce (List.mem_of_getElem? hj) (λi u hu=>?_) q2;have hi:i<n:=by have:=Ac hu;rwa [hV]at this
  have hj2:(j+1)*n<=l.length*n:=Nat.mul_le_mul_right n (by omega);rw[Nat.add_mul]at hj2;have:=h1.cellAt (j*n+i) (by omega);rw[q1 i u hu]at this;simpa using this
end
def vBr(x:Brt)(s:Value):List Value:=[.string x.name,.string x.zone,s,.int .i64 x.room,.int .i64 x.hold,.bool x.closed]
def vCp(x:Cpy)(s:Value):List Value:=[.string x.name,.string x.service,.int .i64 x.rank,.int .i64 x.born,.int .i64 x.room,.int .i64 x.hold,.string x.select,s,.int .i64 x.apart,.string x.near,.string x.fixed,.string x.at_]
theorem Zu(x:Brt)(s:Value):(vBr x s).length=6:=rfl
theorem Nj(x:Cpy)(s:Value):(vCp x s).length=12:=rfl
abbrev BC(base:Nat)(w:World)(v:Value)(l:List Brt):Prop:=OwnN vBr Brt.marks StrC 1 6 52 base w v l
abbrev Rk(base:Nat)(w:World)(v:Value)(l:List Cpy):Prop:=OwnN vCp Cpy.likes LikC 2 12 49 base w v l
def SzB(l:List Brt):Prop:=∀x∈l,x.name.size<=maxLen/\x.zone.size<=maxLen
def SzC(l:List Cpy):Prop:=∀x∈l,x.name.size<=maxLen/\x.service.size<=maxLen/\x.select.size<=maxLen/\x.near.size<=maxLen/\x.fixed.size<=maxLen/\x.at_.size<=maxLen
theorem SzB.of{lo:Nat}{w:World}{a:OA}{l:List Brt}(h:SliceC BrtC 6 lo w a l):SzB l:=by
 intro x hx;obtain⟨j,hj⟩:=List.getElem?_of_mem hx;obtain⟨_,_,_,_,_,hc⟩:=h.at hj;obtain⟨_,_,_,_,_,_,_,_,z0,z1,_⟩:=hc;exact⟨z0,z1⟩
theorem SzC.of{lo:Nat}{w:World}{a:OA}{l:List Cpy}(h:SliceC CpyC 12 lo w a l):SzC l:=by
 intro x hx;obtain⟨j,hj⟩:=List.getElem?_of_mem hx;obtain⟨_,_,_,_,_,hc⟩:=h.at hj;obtain⟨_,_,_,_,_,_,_,_,_,_,_,_,_,_,z0,z1,z6,z9,z10,z11,_⟩:=hc;exact⟨z0,z1,z6,z9,z10,z11⟩
theorem OwnN.berths{base:Nat}{w:World}{a:OA}{q:Nat}{l:List Brt}(h:BC base w (.slice a l.length q) l)(hz:SzB l)(hm:l.length<=maxLen):SliceC BrtC 6 base w a l :=
 OwnN.slice h Zu hm (λ_ x ae ce hx hf hs=>⟨ae,ce,hf 0 _ rfl,hf 1 _ rfl,hf 2 _ rfl,hf 3 _ rfl,hf 4 _ rfl,hf 5 _ rfl,(hz x hx).1,(hz x hx).2,hs⟩)
theorem OwnN.copies{base:Nat}{w:World}{a:OA}{q:Nat}{l:List Cpy}(h:Rk base w (.slice a l.length q) l)(hz:SzC l)(hm:l.length<=maxLen):SliceC CpyC 12 base w a l :=
 OwnN.slice h Nj hm (λ_ x ae ce hx hf hs=>⟨ae,ce,hf 0 _ rfl,hf 1 _ rfl,hf 2 _ rfl,hf 3 _ rfl,hf 4 _ rfl,hf 5 _ rfl,hf 6 _ rfl,hf 7 _ rfl,hf 8 _ rfl,hf 9 _ rfl,hf 10 _ rfl,hf 11 _ rfl,(hz x hx).1,(hz x hx).2.1,(hz x hx).2.2.1,(hz x hx).2.2.2.1,(hz x hx).2.2.2.2.1,(hz x hx).2.2.2.2.2,hs⟩)
end Go.Proofs.YtpidfnfilnkhkaaGreat
