import Derived.Test.YthboopnmbglkjaaGreatPlg
set_option maxHeartbeats 8000000
set_option maxRecDepth 100000
namespace Go.Proofs.YthboopnmbglkjaaGreat
open Go.RowKit Go.WideMaps Go.Maps Tryz
theorem OwnN.kpbC{base:Nat}{w w':World}{v:Value}{l:List Cpy}(h:Rr base w v l)(k:KpB base w w'):Rr base w' v l:=by
 obtain⟨cs,h1,h2⟩:=h;refine⟨cs,Sq h1 k,λj x hj=>?_⟩;obtain⟨ae,ce,q1,q2,q3⟩:=h2 j x hj;exact⟨ae,ce,q1,q2.keep LikC.holds k.keeps nL,λb o e hn=>⟨(q3 b o e hn).1,lL (q3 b o e hn).2 k.1⟩⟩
def OcT(base top:Nat)(w:World)(v:Value)(l:List Cpy):Prop:=∃W,Rr base W v l/\W.heap.size<=top/\KpB base W w
theorem OcT.own{base top:Nat}{w:World}{v:Value}{l:List Cpy}(h:OcT base top w v l):Rr base w v l:=by
 obtain⟨W,h1,_,k⟩:=h;exact h1.kpbC k
theorem OcT.keep{base top:Nat}{w w':World}{v:Value}{l:List Cpy}(h:OcT base top w v l)(hs:w.heap.size<=w'.heap.size)(hk:∀x,base<=x->x<top->x<w.heap.size->w'.heap[x]?=w.heap[x]?):OcT base top w' v l:=by
 obtain⟨W,h1,h2,k⟩:=h;exact⟨W,h1,h2,lT k.1 hs,λx a b=>(hk x a (lL b h2) (lL b k.1)).trans (k.2 x a b)⟩
theorem OcT.setAt{base top G q:Nat}{w:World}{l:List Cpy}{i:Nat}{y:Cpy}(h:OcT base top w (sP G 0 l.length q) l)(hi:l[i]?=some y)(s:BA):OcT base top (w.setCell (E G (i*12+11)) (Y s)) (sP G 0 l.length q) (l.set i {y with at_:=s}):=by
 obtain⟨W,h1,h2,k⟩:=h;refine⟨W.setCell (E G (i*12+11)) (Y s),h1.setAt hi s,by simpa[World.setCell]using h2,by simpa[World.setCell]using k.1,λx a b=>?_⟩;simp only[World.setCell,Array.getElem?_modify];rw[k.2 x a (by simpa[World.setCell]using b)]
theorem Uv{lo g2 o2:Nat}{w w':World}{l:List Svc}(h:sV lo w (O g2 o2) l)(hs:w.heap.size<=w'.heap.size)(he:l≠[]->w'.heap[g2]?=w.heap[g2]?):sV lo w' (O g2 o2) l:=by
 obtain⟨h1,h2⟩:=h;refine⟨h1,?_⟩;rcases h2 with e|⟨b,o,ea,⟨hlo,hfz⟩,hbl,hc⟩
 .exact .inl e
 cases ea
 by_cases hl:l=[]
 .exact .inl hl
 replace he:=he hl;exact .inr ⟨g2,o2,rfl,⟨hlo,λhp p=>(World.frozen?_of_block (a:=(E g2 p)) he).trans (hfz hp p)⟩,lL hbl hs,λj x hj=>SvcC.flat lo lo w w' _ _ x (λi _=>World.cell?_of_block (a:=(E g2 (o2+j*2+i))) he) (hc j x hj)⟩
structure SJ (x:Flt) (w wB:World) (e1:OA) (q1 g2 q2:Nat) (e3:OA) (q3 lw H bs fb k:Nat) (y:Flt) (W:World):Prop where
 st:(stP x k).1=y
 hv:Bb y=true
 wc:k+wcF y<=60
 e0:y.pack=x.pack
 e1':y.berths=x.berths
 e2:y.services=x.services
 el:y.copies.length=x.copies.length
 sz:SzC y.copies
 oc:OcT bs fb W (.slice e3 y.copies.length q3) y.copies
 kp:Keeps H wB W
 sv:sV lw W (O g2 0) x.services
 zf:Blk (w.heap.size+1) FfA 32 W
 fx:Blk fb (ffA y e1 q1 (O g2 0) q2 e3 q3) 32 W
 bw:bW w W
structure SJc (x:Flt) (w wB:World) (e1:OA) (g2:Nat) (e3:OA) (gs lw H bs fb:Nat):Prop where
 br:sB H wB e1 x.berths
 b0:w.heap.size+1<gs
 b1:gs<lw
 b2:lw<=H
 b3:H<=bs
 b4:wB.heap.size<=bs
 b5:g2<bs
 b6:bs<=fb
 b7:x.services≠[]->gs<g2
 bg:∀G,e3=(O G 0)->bs<=G/\G<fb
section
variable {x:Flt} {w wB:World} {e1:OA} {q1 g2 q2:Nat} {e3:OA} {q3 gs lw H bs fb k:Nat} {y:Flt} {W:World}
theorem SJ.n1(h:SJ x w wB e1 q1 g2 q2 e3 q3 lw H bs fb k y W)(c:SJc x w wB e1 g2 e3 gs lw H bs fb):sB H W e1 y.berths:=by
 rw[h.e1'];exact c.br.keep BrtC.holds h.kp nL
theorem SJ.n3(h:SJ x w wB e1 q1 g2 q2 e3 q3 lw H bs fb k y W)(c:SJc x w wB e1 g2 e3 gs lw H bs fb):sC H W e3 y.copies :=
 (OwnN.copies h.oc.own h.sz (by have:=(Bh h.hv).2.1;unfold maxLen;omega)).keep CpyC.holds (Keeps.refl _ _) c.b3
theorem SJ.low(h:SJ x w wB e1 q1 g2 q2 e3 q3 lw H bs fb k y W)(c:SJc x w wB e1 g2 e3 gs lw H bs fb){W':World}(hb:But gs (fb+1) W W'):SJ x w wB e1 q1 g2 q2 e3 q3 lw H bs fb k y W':=by
 have c0:=c.b0;have c1:=c.b1;have c2:=c.b2;have c3:=c.b3;have c4:=c.b4;have c5:=c.b5;have c6:=c.b6;have hs:∀b,gs<b->b<=fb->W'.heap[b]?=W.heap[b]?:=λb h1 h2=>hb.block b (by omega) (by omega)
 exact⟨h.st,h.hv,h.wc,h.e0,h.e1',h.e2,h.el,h.sz,h.oc.keep hb.size (λx h1 h2 _=>hs x (by omega) (by omega)),⟨lT h.kp.1 hb.size,λb o h1 h2=>by
  have e:=hs b (by omega) (by omega)
  exact⟨(World.cell?_of_block (a:=(E b o)) e).trans (h.kp.2 b o h1 h2).1,(World.frozen?_of_block (a:=(E b o)) e).trans (h.kp.2 b o h1 h2).2⟩⟩,Uv h.sv hb.size (λe=>hb.block g2 (by omega) (by have:=c.b7 e;omega)),(hb.block _ (by omega) (by omega)).trans h.zf,(hs fb (by omega) nL).trans h.fx,h.bw.trans (hb.below (by omega) (by omega))⟩
theorem SJ.below(h:SJ x w wB e1 q1 g2 q2 e3 q3 lw H bs fb k y W)(c:SJc x w wB e1 g2 e3 gs lw H bs fb){W':World}(hb:bW W W'):SJ x w wB e1 q1 g2 q2 e3 q3 lw H bs fb k y W':=h.low c (But.of_below (hb.mono (by have:=h.fx.lt;omega)))
theorem SJ.row(h:SJ x w wB e1 q1 g2 q2 e3 q3 lw H bs fb k y W)(hl:0<y.copies.length):∃G,e3=(O G 0):=by
 obtain⟨cs,h9,_⟩:=h.oc.own;rcases h9.2 with⟨e9,e8⟩|⟨g,cap,cur,e9,_⟩
 .omega
 injection e9 with e7;exact⟨g,e7⟩
theorem SJ.put{G c0:Nat}{d:Cpy}{z:Nat×Brt}(h:SJ x w wB e1 q1 g2 q2 (O G 0) q3 lw H bs fb k y W)(c:SJc x w wB e1 g2 (O G 0) gs lw H bs fb)(hq:Fv y=some (c0,z))(hd:y.copies[c0]?=some d):SJ x w wB e1 q1 g2 q2 (O G 0) q3 lw H bs fb (k+1) (Ip y c0 d z.2.name) (W.setCell (E G (c0*12+11)) (Y z.2.name)):=by
 have hs:=Tz hq hd;obtain⟨hG1,hG2⟩:=c.bg G rfl;have c0':=c.b0;have c1:=c.b1;have c2:=c.b2;have c3:=c.b3;have c4:=c.b4;have c5:=c.b5;have c6:=c.b6;have hbl:∀b,b≠G->(W.setCell (E G (c0*12+11)) (Y z.2.name)).heap[b]?=W.heap[b]?:=λb h2=>Below.heap_setCell _ _ _ b h2
 have hz:z.2.name.size<=maxLen:=by
  obtain⟨_,_,y',hq',hy',_,hc',_,_⟩:=Jw hs;rw[hq]at hq';cases hq'
  have:=Ku ((Au h.hv).2.2.1 _ _ (Gg hc').1).1;unfold maxLen;omega
 refine⟨?_,Oy h.hv hs,?_,h.e0,h.e1',h.e2,(Gb _ _ _ _).trans h.el,?_,?_,?_,Uv h.sv (by simp[World.setCell]) (λ_=>hbl g2 (by omega)),(hbl _ (by omega)).trans h.zf,?_,h.bw.setCell (p:=(E G (c0*12+11))) (by show w.heap.size<=G;omega) _⟩
 .have h9:=h.st
  rw[Kh (x':=Ip y c0 d z.2.name) (s:=(d.name,z.2.name)) (by rw[h9];exact hs)]
 .have:=Rg h.hv hs
  have:=h.wc;omega
 .intro e he
  obtain⟨i,hi⟩:=List.getElem?_of_mem he;rw[Pa hd]at hi;by_cases ei:c0=i
  .rw[if_pos ei]at hi
   cases hi
   obtain⟨t1,t2,t3,t4,t5,_⟩:=h.sz d (List.mem_of_getElem? hd);exact⟨t1,t2,t3,t4,t5,hz⟩
  rw[if_neg ei]at hi;exact h.sz e (List.mem_of_getElem? hi)
 .rw[Gb]
  exact h.oc.setAt hd z.2.name
 .refine⟨by simpa[World.setCell]using h.kp.1,λb o h1 h2=>?_⟩
  have e:=hbl b (by omega);exact⟨(World.cell?_of_block (a:=(E b o)) e).trans (h.kp.2 b o h1 h2).1,(World.frozen?_of_block (a:=(E b o)) e).trans (h.kp.2 b o h1 h2).2⟩
 unfold ffA;rw[Gb];exact(hbl fb (by omega)).trans h.fx
end
def sL(l:List (BA×BA)):List Stp:=l.map λs=>⟨s.1,s.2,[]⟩
theorem cR:∀(l:List (BA×BA))(j:Nat)(s:BA×BA),l[j]?=some s->(Jy l)[j*3]?=some (Y s.1)/\(Jy l)[j*3+1]?=some (Y s.2)/\(Jy l)[j*3+2]?=some (.slice none 0 0)
 |[],j,s,h=>by cases h
 |a::r,0,s,h=>by
  cases h
  exact⟨rfl,rfl,rfl⟩
 | a::r,j+1,s,h=>by
  have h9:=cR r j s h;have e:∀i,(Jy (a::r))[3+i]?=(Jy r)[i]?:=λi=>by
   show([_,_,_]++Jy r)[3+i]?=_
   rw[List.getElem?_append_right (by simp)];simp
  rw[show(j+1)*3=3+j*3 by omega,show 3+j*3+1=3+(j*3+1) by omega,show 3+j*3+2=3+(j*3+2) by omega,e,e,e];exact h9
theorem Zy{base cap lo:Nat}{w:World}{a:OA}{l:List (BA×BA)}(h:w.ownsRow base 49 3 (.slice a l.length cap) l.length (Jy l))(hz:∀s∈l,s.1.size<=20/\s.2.size<=20)(hm:l.length<=60)(hlo:lo<=base):SliceC StpC 3 lo w a (sL l):=by
 refine⟨by unfold sL;rw[List.length_map];unfold maxLen;omega,?_⟩;by_cases hn:l=[]
 .exact .inl (by rw[hn];rfl)
 rcases h.2 with⟨_,h2⟩|⟨g,cp,cur,h1,h2,h3,h4⟩
 .exact absurd (List.length_eq_zero_iff.1 h2) hn
 have hg:=h.lt g (by rw[h1];rfl);injection h1 with ea _ _;subst ea;refine .inr ⟨g,0,rfl,⟨by omega,λ_ p=>h.frozenAt p⟩,hg.2,λj x hj=>?_⟩;unfold sL at hj;rw[List.getElem?_map]at hj;obtain⟨s,hs,rfl⟩:=Option.map_eq_some_iff.1 hj;obtain⟨r0,r1,r2⟩:=cR l j s hs;have hjl:=Af hs;have hzs:=hz s (List.mem_of_getElem? hs);have hc:∀i v,i<3->(Jy l)[j*3+i]?=some v->w.cell? (E g (0+j*3+i))=some v:=λi v hi hv=>by
  have:=h.cellAt (j*3+i) (by omega);rw[hv]at this;rw[show 0+j*3+i=j*3+i by omega];exact this
 exact⟨none,0,hc 0 _ (by omega) r0,hc 1 _ (by omega) r1,hc 2 _ (by omega) r2,by show s.1.size<=_;unfold maxLen;omega,by show s.2.size<=_;unfold maxLen;omega,SliceC.nil⟩
theorem Nh{x:Flt}(hv:Bb x=true):∀k,Bb (stP x k).1=true/\∀s∈(stP x k).2,s.1.size<=20/\s.2.size<=20
 |0=>⟨hv,λs hs=>by cases hs⟩
 | k+1=>by
  obtain⟨h1,h2⟩:=Nh hv k
  cases hs:Jk (stP x k).1 with
  |none =>
   have e:stP x (k+1)=stP x k:=Tk hs 1;rw[e];exact⟨h1,h2⟩
  |some p =>
   obtain⟨x',s⟩:=p;rw[Kh hs];refine⟨Oy h1 hs,λt ht=>?_⟩;rcases List.mem_append.1 ht with ht|ht
   .exact h2 t ht
   obtain⟨c,z,y,_,hy,_,hc,_,rfl⟩:=Jw hs;rw[List.mem_singleton.1 ht];exact⟨Ku (Rb h1 hy),Ku ((Au h1).2.2.1 _ _ (Gg hc).1).1⟩
theorem dQ{P:Program}{ops:Array Oper}{Q:Exit->Act->World->Prop}{md:Region.Mode}{S:World->Prop}{s i:Nat}{oi:Oper}{v:Value}{n:Nat}{l:Array Bool}{a:Act}{w:World}(hi:ops[i]?=some oi)(hr:Region.ready md ops l=[i])(hy:YieldsIf P ops S oi v a)(hS:S w)(h:wpAnyU P md ops Q s S n (l.setIfInBounds i true) (a.put oi.dst v) w):wpAnyU P md ops Q s S (n+1) l a w :=
 ⟨λh0=>(by rw[hr]at h0;cases h0),(by rw[hr];intro j hj;rw[List.mem_singleton.1 hj];exact hy.wpOp hi hS ⟨λ_=>hS,h⟩)⟩
theorem rZ{α:Type}{C:Eh α}{m lo:Nat}{w:World}{a:OA}{l:List α}{b o:Nat}(h:SliceC C m lo w a l)(e:a=(O b o))(hn:l≠[]):lo<=b:=by
 rcases h.2 with e2|⟨b',o',e',⟨hlo,_⟩,_⟩
 .exact absurd e2 hn
 rw[e]at e';cases e'
 exact hlo
def spC(x:Flt)(o:Option (Nat×(Nat×Brt))):Array Value:=match o with
 |none=>#[Y ⟨#[]⟩,Y ⟨#[]⟩,.slice none 0 0]
 |some q=>#[Y (nmQ x q.1),Y q.2.2.name,.slice none 0 0]
theorem uT(x:Flt)(o:Option (Nat×(Nat×Brt))):spV x o=.agg (spC x o):=by cases o<;>rfl
theorem Kc(x:Flt)(o:Option (Nat×(Nat×Brt))):(spC x o).size=3:=by cases o<;>rfl
theorem mM(x:Flt)(o:Option (Nat×(Nat×Brt))):(spC x o).all (·.oneCell')=true:=by cases o<;>simp[spC,Value.oneCell']
theorem SJ.end_{x:Flt}{w wB:World}{e1:OA}{q1 g2 q2:Nat}{e3:OA}{q3 gs lw H bs fb k:Nat}{y:Flt}{W W':World}(h:SJ x w wB e1 q1 g2 q2 e3 q3 lw H bs fb k y W)(c:SJc x w wB e1 g2 e3 gs lw H bs fb)(hs:W.heap.size=W'.heap.size)(hk:∀b,b≠w.heap.size+1->W'.heap[b]?=W.heap[b]?):sB (w.heap.size+1) W' e1 y.berths/\sV (w.heap.size+1) W' (O g2 0) y.services/\sC (w.heap.size+1) W' e3 y.copies:=by
 have c0:=c.b0;have c1:=c.b1;have c2:=c.b2;have hK:Keeps H W W':=⟨Nat.le_of_eq hs,λb o h1 _=>⟨World.cell?_of_block (a:=(E b o)) (hk b (by omega)),World.frozen?_of_block (a:=(E b o)) (hk b (by omega))⟩⟩;refine⟨(h.n1 c).keep BrtC.holds hK (by omega),?_,(h.n3 c).keep CpyC.holds hK (by omega)⟩;rw[h.e2];exact(Uv h.sv (Nat.le_of_eq hs) (λe=>hk g2 (by have:=c.b7 e;omega))).keep SvcC.holds (Keeps.refl _ _) (by omega)
def BE(x:Flt)(w:World)(e:Ending)(w':World):Prop:=∃(d1:OA)(k1:Nat)(d2:OA)(k2:Nat)(d3:OA)(k3:Nat)(sa:OA)(sc:Nat),e=.returned (.tuple #[.agg #[.bool (plA x).1.pack,.slice d1 (plA x).1.berths.length k1,.slice d2 (plA x).1.services.length k2,.slice d3 (plA x).1.copies.length k3],.slice sa (plA x).2.length sc])/\(sB (w.heap.size+1) w' d1 (plA x).1.berths/\sV (w.heap.size+1) w' d2 (plA x).1.services/\sC (w.heap.size+1) w' d3 (plA x).1.copies/\SliceC StpC 3 (w.heap.size+1) w' sa (sL (plA x).2))/\bW w w'
theorem Ya(x:Flt)(a1:OA)(c1 b2 o2 c2:Nat)(a3:OA)(c3 lo:Nat)(w:World)(n1:sB lo w a1 x.berths)(n2:sV lo w (O b2 o2) x.services)(n3:sC lo w a3 x.copies)(l1:x.berths.length<=1048576)(l2:x.services.length<=1048576)(l3:x.copies.length<=1048576)(hmk:∀y∈x.berths,y.marks.length<=1048576)(hlk:∀y∈x.copies,y.likes.length<=1048576) :
  Calls prog 5 #[.agg (ffA x a1 c1 (O b2 o2) c2 a3 c3)] w λe w'=>BE x w e w':=by
 obtain⟨w0,hw0,HX,HZ,HB⟩:=alT w (ffA x a1 c1 (O b2 o2) c2 a3 c3) FfA 32 32;have N1:=iH n1;have N2:=iH n2;have N3:=iH n3;have HMK:=iH hmk;have HLK:=iH hlk;clear n1 n2 n3 hmk hlk;go_enter func5,ntmps5;go_upto_region 1 with fail;rw[<-hw0];clear hw0;have hs0:w.heap.size+1<w0.heap.size:=HZ.out.lt;go_upto_region 2 with fail;have hba:=(Below.refl _ w0).alloc nL (Obj.cells #[] 49);have HS0:Hid ((w0.alloc (Obj.cells #[] 49)).ownsRow w0.heap.size 49 3 (sP w0.heap.size 0 0 0) 0 []):=World.ownsRow_made w0 #[] 0 nL (zL) rfl;have hsa:(w0.alloc (Obj.cells #[] 49)).heap.size=w0.heap.size+1:=by simp
 generalize w0.alloc (Obj.cells #[] 49)=wa at *;have HXa:=qBk HX hba;have HZa:=qBk HZ hba;have HBa:=iH (HB.out.trans (hba.mono (by omega)));clear hba HX HZ HB;generalize hgs:w0.heap.size=gs at *;clear hgs;have HRX:=iH HXa.out.rangeA;go_wp2_with(first|(refine qLr Mc HRX ?_));clear HRX;refine(Xz x a1 c1 (O b2 o2) c2 a3 c3 lo wa (N1.out.below BrtC.holds HBa nL) (N2.out.below SvcC.holds HBa nL) (N3.out.below CpyC.holds HBa nL) l1 l2 l3).mono ?_;rintro e w1⟨rfl,hb1⟩;rw[<-sN x l3];have hs1:=hb1.size;have HX1:=qBk HXa hb1;have HZ1:=qBk HZa hb1;have HB1:=iH (HBa.out.trans (hb1.mono (by omega)));have HS1:=iH (Ak HS0 hb1);clear hb1 HXa HZa HBa HS0
 cases hv:Bb x with
 | false =>
  have HPA:Hid (plA x=(noF,[])):=by show _=_;unfold plA;rw[if_neg (by rw[hv];decide)]
  clear hv;have HTZ:=iH HZ1.out.there;obtain⟨wf,HE⟩:∃wf,Hid (wf=w1.setCells (w.heap.size+1) 0 FfL):=⟨_,rfl⟩;have HRf:Hid (wf.rangeAt (w.heap.size+1) 0 FfL):=by
   show World.rangeAt _ _ _ _
   rw[HE.out];exact World.rangeAt_setCells_same w1 (w.heap.size+1) 0 _ HTZ
  have HBf:Hid (bW w wf):=by
   show Below _ _ _
   rw[HE.out];exact Ae (by omega) _ _ _ HB1
  go_wp2_with(first|(refine Ai rfl 32 _ _ rfl (w.heap.size+1) 0 FfA rfl rfl HTZ Cf (by simp[Value.oneCell']) wf HE ?_));refine bodyPost_ret (fC rfl _ _ (w.heap.size+1) FfL _ rfl HRf underlying32 rfl Cf) rfl ⟨none,0,none,0,none,0,(O gs 0),0,by rw[HPA.out];rfl,?_,HBf⟩;rw[HPA.out];exact⟨SliceC.nil,SliceC.nil,SliceC.nil,⟨zL,.inl rfl⟩⟩
 | true =>
  have HV:=iH hv;clear hv;have HRX:=iH HX1.out.rangeA;go_wp2_with(first|(refine qLr Mc HRX ?_));clear HRX HX1;refine(fQ x a1 c1 b2 o2 c2 a3 c3 lo w1 (N1.out.below BrtC.holds HB1 nL) (N2.out.below SvcC.holds HB1 nL) (N3.out.below CpyC.holds HB1 nL) l2 l1 l3 HMK HLK).mono ?_;rintro e w2⟨e1,q1,g2,q2,e3,q3,bs,H,wB,rfl,_,hbr,hH,hHb,hwb,hkp,hsv,hg2,hoc,hb2⟩;have hs2:=hb2.size;have hbg:∀G,e3=(O G 0)->bs<=G/\G<w2.heap.size:=λG e=>by
   obtain⟨cs,h9,_⟩:=hoc;exact h9.lt G (by rw[e];rfl)
  have hbz:bs<=w2.heap.size:=by have:=hkp.1;omega
  have hsg:x.services≠[]->gs<g2:=λhn=>by
   have:=rZ hsv rfl hn;omega
  obtain⟨w3,HE3⟩:∃w3,w3=w2.alloc (Obj.cells (ffA x e1 q1 (O g2 0) q2 e3 q3) 32):=⟨_,rfl⟩;have HV3:Hid (Blk w2.heap.size (ffA x e1 q1 (O g2 0) q2 e3 q3) 32 w3):=by
   rw[HE3];exact Blk.alloc _ _ _
  have hb3:bW w2 w3:=by
   rw[HE3];exact(Below.refl _ _).alloc nL _
  have hs3:w2.heap.size<w3.heap.size:=HV3.out.lt;have hb23:=qTr hb2 hb3;have HCJ:Hid (SJc x w wB e1 g2 e3 gs w1.heap.size H bs w2.heap.size):=⟨hbr,by omega,by omega,hH,hHb,by omega,hg2,hbz,hsg,hbg⟩;have HPJ:Hid (SJ x w wB e1 q1 g2 q2 e3 q3 w1.heap.size H bs w2.heap.size 0 x w3):=⟨rfl,HV,yS HV,rfl,rfl,rfl,rfl,kL N3,⟨w2,hoc,Nat.le_refl _,KpB.below hb3⟩,hkp.trans (Keeps.of_below hb3 nL _),hsv.below SvcC.holds hb3 nL,HZ1.out.below hb23 HZ1.out.lt,HV3,qTr HB1 hb23⟩;have HS3:=iH (Ak HS1 hb23);clear hbr hkp hsv hoc hb2 hb3 hb23 HZ1 HB1 HS1 hbg;have HR3:=iH HV3.out.rangeA;go_upto_region 5 with fail;rw[<-HE3];clear HE3;generalize hfb:w2.heap.size=fb at *;clear hfb;go_wp2_with(first|(refine qLr Mc HR3 ?_));clear HR3;refine(Sv x e1 q1 (O g2 0) q2 e3 q3 H w3 (HPJ.out.n1 HCJ) (HPJ.out.n3 HCJ) HV).mono ?_;rintro e w4⟨rfl,hb4⟩;rw[uT];have hs4:=hb4.size;have HPJ4:=iH (HPJ.out.below HCJ hb4);have HS4:=iH (Ak HS3 hb4);clear hb4 HPJ HS3 HV3;have hza:=Blk.alloc w4 #[Y ⟨#[]⟩,Y ⟨#[]⟩,.slice none 0 0] 49;have HTS:=iH (show(w4.alloc (Obj.cells #[Y ⟨#[]⟩,Y ⟨#[]⟩,.slice none 0 0] 49)).there w4.heap.size 0 (spC x (Fv x)).size by rw[Kc];exact hza.there);obtain⟨w5,HE5⟩:∃w5,Hid (w5=(w4.alloc (Obj.cells #[Y ⟨#[]⟩,Y ⟨#[]⟩,.slice none 0 0] 49)).setCells w4.heap.size 0 (spC x (Fv x)).toList):=⟨_,rfl⟩;have HV5:Hid (Blk w4.heap.size (spC x (Fv x)) 49 w5):=by
   show Blk _ _ _ _
   rw[HE5.out];exact hza.setAll (spC x (Fv x)) (by rw[Kc];rfl)
  have hb5:bW w4 w5:=by
   rw[HE5.out];exact Ae nL _ _ _ ((Below.refl _ _).alloc nL _)
  have HPJ5:=iH (HPJ4.out.below HCJ hb5);have HS5:=iH (Ak HS4 hb5);clear hza hb5 HPJ4 HS4;obtain⟨i0,hi0,hy0,hy1,hy2⟩:=info_parts fI;have HI0:=iH hi0;clear hi0;have hgfb:gs<fb:=by have:=HCJ.out;have c1:=this.b1;have c2:=this.b2;have c3:=this.b3;have c6:=this.b6;omega
  go_upto_region 6 with(first|(refine Ai rfl 49 _ _ rfl w4.heap.size 0 (spC x (Fv x)) rfl rfl HTS (by rw[Kc];exact Hp) (mM _ _) w5 HE5 ?_));clear HTS HE5;go_loopw [4,6,7] (λs t u wr=>∃(k:Nat)(y:Flt)(sa:OA)(sc sb:Nat),s=.slice sa (stP x k).2.length sc/\t=pP sb 0/\u=.bool (Fv y).isSome/\k<=60/\Hid (SJ x w wB e1 q1 g2 q2 e3 q3 w1.heap.size H bs fb k y wr)/\Hid (wr.ownsRow gs 49 3 (.slice sa (stP x k).2.length sc) (stP x k).2.length (Jy (stP x k).2))/\Hid ((stP x k).2.length=k)/\fb<sb/\Hid (Blk sb (spC y (Fv y)) 49 wr)/\Hid (∀b,(Value.slice sa (stP x k).2.length sc).ownBlock=some b->(b=gs\/fb<b)/\b<sb)) (λs _ _ _=>61-xU s)
  case atStart=>exact⟨0,x,(O gs 0),0,w4.heap.size,rfl,rfl,rfl,by omega,HPJ5,HS5,rfl,by omega,HV5,λb e=>by cases e;exact⟨.inl rfl,by show gs<_;omega⟩⟩
  clear HPJ5 HS5 HV5;obtain⟨k,y,sa,sc,sb,rfl,rfl,rfl,hk,HP,HS,HL,hfs,HB,HOW⟩:=hrel
  cases hq:Fv y with
  | none =>
   simp only[Option.isSome_none];have HEND:Hid (plA x=stP x k):=by
    show _=_
    unfold plA;rw[if_pos HV.out];exact mJ (by rw[HP.out.st];exact Yt hq) hk
   have HRY:=iH HP.out.fx.rangeA;have HTZ:=iH HP.out.zf.there;obtain⟨wf,HE⟩:∃wf,Hid (wf=wr.setCells (w.heap.size+1) 0 (ffL y e1 q1 (O g2 0) q2 e3 q3)):=⟨_,rfl⟩;have HRf:Hid (wf.rangeAt (w.heap.size+1) 0 (ffL y e1 q1 (O g2 0) q2 e3 q3)):=by
    show World.rangeAt _ _ _ _
    rw[HE.out];exact World.rangeAt_setCells_same wr (w.heap.size+1) 0 _ HTZ
   have HK5:Hid (wr.heap.size=wf.heap.size/\(∀k,k≠w.heap.size+1->wf.heap[k]?=wr.heap[k]?)/\bW w wf):=by
    show _/\_
    rw[HE.out,Be];exact⟨rfl,λk hk=>Aw hk _ _ _,Ae (by omega) _ _ _ HP.out.bw⟩
   clear hq HB;go_wp2_with(first|(refine qLr Mc HRY ?_)|(refine Ai rfl 32 _ _ rfl (w.heap.size+1) 0 (ffA y e1 q1 (O g2 0) q2 e3 q3) rfl rfl HTZ Cf (by simp[Value.oneCell']) wf HE ?_));refine bodyPost_ret (fC rfl _ _ (w.heap.size+1) (ffL y e1 q1 (O g2 0) q2 e3 q3) _ rfl HRf underlying32 rfl Cf) rfl ?_;have hf:=HP.out.end_ HCJ HK5.out.1 HK5.out.2.1;refine⟨e1,q1,(O g2 0),q2,e3,q3,sa,sc,?_,?_,HK5.out.2.2⟩
   .rw[show(plA x).1=y by rw[HEND.out];exact HP.out.st,HEND.out]
    rfl
   rw[show(plA x).1=y by rw[HEND.out];exact HP.out.st,HEND.out];have hl:=HL.out;have hc0:=HCJ.out.b0;exact⟨hf.1,hf.2.1,hf.2.2,Zy (Ev (w':=wf) HS (λb hb=>HK5.out.2.1 b (by have:=(HS.out.lt b hb).1;omega))) (Nh HV k).2 (by omega) (by omega)⟩
  | some cz =>
   obtain⟨c0,z⟩:=cz;simp only[Option.isSome_some];obtain⟨hmem,hch⟩:=Mo hq;have hcl:=Sd hmem;obtain⟨d,hd⟩:=gXe hcl;obtain⟨G,rfl⟩:=HP.out.row (by omega);have hGb:=HCJ.out.bg G rfl;have HIX:Hid (Qq y.copies d.name=((c0:Nat):Int)):=by
    obtain⟨_,_,_,hasc,_,_⟩:=Bh HP.out.hv;refine Tu hd rfl λj b hj hb e=>?_
    have h9:=hasc.inj (i:=j) (j:=c0) (s:=d.name) (by show(y.copies.map (·.name))[j]?=_;rw[List.getElem?_map,hb,Option.map_some,e]) (by show(y.copies.map (·.name))[c0]?=_;rw[List.getElem?_map,hd];rfl);omega
   have hyl:=(Bh HP.out.hv).2.1;have HBS:Hid (Blk sb #[Y d.name,Y z.2.name,.slice none 0 0] 49 wr):=by
    have h9:=HB.out;rw[hq]at h9;unfold spC at h9;simp only[Vj hd]at h9;exact h9
   have HNX:Hid ((stP x (k+1)).2=(stP x k).2++[(d.name,z.2.name)]):=by
    show _=_
    rw[Kh (by rw[HP.out.st];exact Tz hq hd)]
   have HN3:=iH (HP.out.n3 HCJ);have HQ:=iH hq;have HD:=iH hd;have HFX:=iH HP.out.fx;have hsr:sb<wr.heap.size:=HBS.out.lt;clear hq hd hmem hch HB;go_upto_region 8 with fail;refine Fk (S:=(λwy=>Blk fb (ffA y e1 q1 (O g2 0) q2 (O G 0) q3) 32 wy/\Blk sb #[Y d.name,Y z.2.name,.slice none 0 0] 49 wy)) 10 (by kernel_rfl) ⟨HFX.out.drew,HBS.out.drew⟩ (λhS=>?_);replace HP:=iH (HP.out.below HCJ (Below.refl _ _).drew);replace HS:=iH (Ak HS (Below.refl _ _).drew);replace HN3:=iH (HN3.out.below CpyC.holds (Below.refl _ _).drew nL);replace hsr:sb<wr.drew.heap.size:=hsr;clear HFX HBS;generalize wr.drew=wn at *;refine tv 0 ⟨some 27,_,_,_,_,none⟩ (pP fb 3) rfl (by rfl) ?_ hS ?_
   .intro wy hy
    clear hy;go_simp
   refine tv 1 ⟨some 28,_,_,_,_,none⟩ (sP G 0 y.copies.length q3) rfl (by rfl) ?_ hS ?_
   .intro wy hy
    have h0:=Blk.cell hy.1 (o:=3) rfl;clear hy;go_simp
   refine tu 2 ⟨some 29,_,_,_,_,none⟩ (.agg (ffA y e1 q1 (O g2 0) q2 (O G 0) q3)) rfl (yieldsIf_load_mid (by rfl) _ _ rfl fb (0) rfl (ffL y e1 q1 (O g2 0) q2 (O G 0) q3) _ (λ_ h=>h.1.rangeA) underlying32 rfl Cf) hS ?_;refine tv 3 ⟨some 30,_,_,_,_,none⟩ (pP sb 0) rfl (by rfl) ?_ hS ?_
   .intro wy hy
    clear hy;go_simp
   refine tv 4 ⟨some 31,_,_,_,_,none⟩ (Y d.name) rfl (by rfl) ?_ hS ?_
   .intro wy hy
    have h0:=Blk.cell hy.2 (o:=0) rfl;clear hy;go_simp
   refine tv 6 ⟨some 33,_,_,_,_,none⟩ (pP sb 1) rfl (by rfl) ?_ hS ?_
   .intro wy hy
    clear hy;go_simp
   refine tv 7 ⟨some 34,_,_,_,_,none⟩ (Y z.2.name) rfl (by rfl) ?_ hS ?_
   .intro wy hy
    have h0:=Blk.cell hy.2 (o:=1) rfl;clear hy;go_simp
   refine ru1 5 ⟨some 32,_,_,_,_,none⟩ rfl (λKK hKK=>?_);go_simp;refine(Xj y e1 q1 (O g2 0) q2 (O G 0) q3 H d.name wn HN3 (by omega)).mono ?_;rintro e w6⟨rfl,hb6⟩;rw[HIX.out];have hs6:wn.heap.size<=w6.heap.size:=hb6.size;replace HP:=iH (HP.out.below HCJ hb6);replace HS:=iH (Ak HS hb6);refine hKK.out _ _ ⟨hS.1.below hb6 hS.1.lt,hS.2.below hb6 hS.2.lt⟩ (λhS=>?_);clear hKK KK hb6 HN3;refine dQ (i:=8) (oi:=⟨some 35,_,_,_,_,none⟩) (v:=pP G (c0*12)) rfl (by kernel_rfl) (Or.inl ⟨by rfl,?_⟩) hS ?_
   .intro wy hy
    clear hy
    first|(go_simp;done)|(go_simp;omega)
   simp only[pX];refine tv 9 ⟨some 36,_,_,_,_,none⟩ (pP G (c0*12+11)) rfl (by rfl) ?_ hS ?_
   .intro wy hy
    clear hy;go_simp
   obtain⟨kz,fz⟩:=OwnN.atCell HP.out.oc.own HD;refine Gd (rs:=[10]) (by kernel_rfl) (by simp) (AllReadyU.last (o:=⟨none,_,_,_,_,none⟩) rfl (λKK hKK=>?_));go_simp;clear kz fz;have HP7:=iH (HP.out.put HCJ HQ HD);have hbl7:∀b,b≠G->(w6.setCell (E G (c0*12+11)) (Y z.2.name)).heap[b]?=w6.heap[b]?:=λb h=>Below.heap_setCell _ _ _ b h
   have HS7:=iH (Ev (w':=(w6.setCell (E G (c0*12+11)) (Y z.2.name))) HS (λb hb=>hbl7 b (by have h9:=HOW.out b hb;have c1:=HCJ.out.b1;have c2:=HCJ.out.b2;have c3:=HCJ.out.b3;omega)));have HB7:Hid (Blk sb #[Y d.name,Y z.2.name,.slice none 0 0] 49 (w6.setCell (E G (c0*12+11)) (Y z.2.name))):=(hbl7 sb (by omega)).trans hS.2;have hs7:w6.heap.size=(w6.setCell (E G (c0*12+11)) (Y z.2.name)).heap.size:=by simp[World.setCell]
   refine hKK.out _ _ (Ji (by kernel_rfl) ?_ _);clear hKK KK hS HP HS hbl7;generalize w6.setCell (E G (c0*12+11)) (Y z.2.name)=w7 at *;have HRS:=iH HB7.out.rangeA;go_upto_region 10 with(first|(refine qLr yK HRS ?_)|(at_builtin;refine wpList_append_lies _ rfl (.tmp 37) (.tmp 39) 33 rfl gs 49 i0 _ 3 56 underlying33 HI0 hy0 hy1 hy2 rfl (by decide) (.slice sa (stP x k).2.length sc) (stP x k).2.length _ rfl (Ak HS7 ((Below.refl _ _).alloc nL _)) (E w7.heap.size 0) 1 1 [Y d.name,Y z.2.name,.slice none 0 0] rfl rfl (nB (Blk.alloc _ _ _)) (by intro u hu;simp at hu;rcases hu with rfl|rfl|rfl<;>rfl) (by omega) (by have:=HL.out;unfold maxLen;omega) (by have:=HL.out;omega) (by simp;omega) _ rfl ?_;intro g cap w8 hown hgrow hto hgl));generalize hyp:Ip y c0 d z.2.name=y2 at *;clear hyp;have hba:∀o,bW w7 (w7.alloc o):=λo=>(Below.refl _ w7).alloc nL _
   have hf7:=HP7.out.fx.lt;have hgw:But gs (fb+1) w7 w8:=(But.of_below ((hba _).mono (by omega))).trans ⟨hgrow.os,hgrow.tape,hgrow.output,hgrow.size,λb h1 h2=>hgrow.block b (lL (show b<w7.heap.size by omega) (hba _).size) (λe=>by have:=HOW.out b e.symm;omega)⟩;have HP8:=iH (HP7.out.low HCJ hgw);have HS8:=iH hown;have HB8:Hid (Blk sb #[Y d.name,Y z.2.name,.slice none 0 0] 49 w8):=(HB7.out.below (hba _) HB7.out.lt).grown hgrow (λe=>by have:=HOW.out sb e.symm;omega);have hs8:w7.heap.size<=w8.heap.size:=hgw.size;have HG8:Hid ((g=gs\/fb<g)/\g<w8.heap.size):=by
    refine⟨?_,hgl⟩;rcases hto with h9|h9
    .exact(HOW g h9).1
    have h8:g=w7.heap.size+1:=by simpa using h9
    omega
   clear hown hgrow hto hgl hgw HP7 HS7 HB7 HRS;have HRS:=iH HB8.out.rangeA;go_upto_region 11 with(refine qLr yK HRS ?_);clear HRS HB8;obtain⟨w9,HE9⟩:∃w9,w9=w8.alloc (Obj.cells #[Y d.name,Y z.2.name,.slice none 0 0] 49):=⟨_,rfl⟩;have HB9:Hid (Blk w8.heap.size #[Y d.name,Y z.2.name,.slice none 0 0] 49 w9):=by
    rw[HE9];exact Blk.alloc _ _ _
   have hb9:bW w8 w9:=by
    rw[HE9];exact(Below.refl _ _).alloc nL _
   have HP9:=iH (HP8.out.below HCJ hb9);have HS9:=iH (Ak HS8 hb9);clear hb9 HP8 HS8;go_upto_region 7 with fail;rw[<-HE9];clear HE9;have hs9:w8.heap.size<w9.heap.size:=HB9.out.lt;have hs68:fb<w8.heap.size:=by omega
   generalize w8.heap.size=sb2 at *;have HR9:=iH HP9.out.fx.rangeA;go_wp2_with(first|(refine qLr Mc HR9 ?_));clear HR9;refine(Sv y2 e1 q1 (O g2 0) q2 (O G 0) q3 H w9 (HP9.out.n1 HCJ) (HP9.out.n3 HCJ) HP9.out.hv).mono ?_;rintro e w10⟨rfl,hb10⟩;rw[uT];have hs10:=hb10.size;have HP10:=iH (HP9.out.below HCJ hb10);have HS10:=iH (Ak HS9 hb10);have HB10:=qBk HB9 hb10;clear hb10 HP9 HS9 HB9;have HTS:=iH (show w10.there sb2 0 (spC y2 (Fv y2)).size by rw[Kc];exact HB10.out.there);obtain⟨w11,HE11⟩:∃w11,Hid (w11=w10.setCells sb2 0 (spC y2 (Fv y2)).toList):=⟨_,rfl⟩;have HB11:Hid (Blk sb2 (spC y2 (Fv y2)) 49 w11):=by
    show Blk _ _ _ _
    rw[HE11.out];exact HB10.out.setAll (spC y2 (Fv y2)) (by rw[Kc];rfl)
   have HP11:Hid (SJ x w wB e1 q1 g2 q2 (O G 0) q3 w1.heap.size H bs fb (k+1) y2 w11):=by
    show SJ _ _ _ _ _ _ _ _ _ _ _ _ _ _ _ _
    rw[HE11.out];exact HP10.out.low HCJ (But.of_below (Ae (by omega) _ _ _ (Below.refl _ _)))
   have HS11:Hid (w11.ownsRow gs 49 3 (sP g 0 ((stP x k).2.length+1) cap) ((stP x k).2.length+1) (Jy (stP x k).2++[Y d.name,Y z.2.name,.slice none 0 0])):=Ev HS10 (λb hb=>by
    cases hb
    have:=HG8.out;rw[HE11.out]
    exact Aw (by show g≠sb2;omega) _ _ _)
   clear HP10 HS10 HB10;go_wp2_with(first|(refine Ai rfl 49 _ _ rfl sb2 0 (spC y2 (Fv y2)) rfl rfl HTS (by rw[Kc];exact Hp) (mM _ _) w11 HE11 ?_));clear HTS HE11;go_roundw
   case rel =>
    refine⟨k+1,y2,(O g 0),cap,sb2,?_,rfl,rfl,by have:=HP11.out.wc;omega,HP11,?_,?_,by omega,HB11,λb e=>?_⟩
    .rw[HNX.out,List.length_append,List.length_singleton]
    .show World.ownsRow _ _ _ _ _ _ _
     rw[HNX.out,List.length_append,List.length_singleton,Yr];exact HS11.out
    .show _=_
     rw[HNX.out,List.length_append,List.length_singleton,HL.out]
    cases e
    exact HG8.out
   have:=HL.out;simp only[xU];omega
end Go.Proofs.YthboopnmbglkjaaGreat
