import Derived.Test.YthboopnmbglkjaaGreatJ44
set_option maxHeartbeats 8000000
set_option maxRecDepth 100000
namespace Go.Proofs.YthboopnmbglkjaaGreat
open Go.RowKit Go.WideMaps Go.Maps Tryz
def Jy(l:List (BA×BA)):List Value:=l.flatMap λs=>[Y s.1,Y s.2,.slice none 0 0]
theorem rF:∀l:List (BA×BA),(Jy l).length=l.length*3
 |[]=>rfl
 |a::r=>by
  show([_,_,_]++Jy r).length=_
  rw[List.length_append,rF r];simp;omega
theorem Yr(l:List (BA×BA))(s:BA×BA):Jy (l++[s])=Jy l++[Y s.1,Y s.2,.slice none 0 0]:=by
 unfold Jy;rw[List.flatMap_append];rfl
def plA(x:Flt):Flt×List (BA×BA):=if Bb x=true then plR x else (noF,[])
def xU(v:Value):Nat:=match v with
 |.slice _ n _=>n
 |_=>0
def CA(x:Flt)(w:World)(e:Ending)(w':World):Prop:=∃(u:Value)(sa:OA)(sc T:Nat),e=.returned (.tuple #[u,.slice sa (plA x).2.length sc])/\NwRes (plA x).1 w (.returned u) (Qh w' T)/\w.heap.size<T/\T<=w'.heap.size/\w'.ownsRow T 49 3 (.slice sa (plA x).2.length sc) (plA x).2.length (Jy (plA x).2)/\bW w w'
theorem Un{B T:Nat}{w W:World}(h:Below B w W)(hb:B<=w.heap.size)(h1:w.heap.size<=T)(h2:T<=W.heap.size):Below B w (Qh W T) where
 os:=h.os
 tape:=h.tape
 output:=h.output
 size:=by rw[Ez h2];exact h1
 block:=λk hk=>(Tl (by omega)).trans (h.block k hk)
theorem yS{x:Flt}(hv:Bb x=true):0+wcF x<=60:=by
 have h1:=Hg x x.copies.length;have h2:=(Bh hv).2.1;unfold wcF;omega
structure PJ (x:Flt) (w w3:World) (p m1 m2 m3 m4:Nat) (g1:OA) (q1:Nat) (g2:OA) (q2:Nat) (g3:OA) (q3 B1 B3 n k:Nat) (y:Flt) (W:World):Prop where
 st:(stP x k).1=y
 hv:Bb y=true
 wc:k+wcF y<=60
 e0:y.pack=x.pack
 e1:y.berths=x.berths
 e2:y.services=x.services
 el:y.copies.length=x.copies.length
 sz:SzC y.copies
 fm:FoundM p m1 m2 m3 m4 n y g1 q1 g2 q2 g3 q3 W
 oc:lM B3 w3.heap.size W (.slice g3 y.copies.length q3) y.copies
 bl:∀b,B1<=b->b<w3.heap.size->g3≠(O b 0)->W.heap[b]?=w3.heap[b]?
 bw:bW w W
 hT:w3.heap.size<=W.heap.size
 zf:Blk (w.heap.size+1) FfA 32 W
structure PJc (x:Flt) (w w3:World) (p m1 m2 m3 m4:Nat) (g1:OA) (q1:Nat) (g3:OA) (B1 B2 B3:Nat):Prop where
 ot:OwnT vBr Brt.marks StrC 1 6 2 92 B1 B2 w3 (.slice g1 x.berths.length q1) x.berths
 szb:SzB x.berths
 lb:x.berths.length<=1048576
 b0:w.heap.size+1<B1
 b1:p<B1
 b2:m4<B1
 b3:B1<=B2
 b4:B2<=B3
 b5:B3<=w3.heap.size
 bp:w.heap.size+1<p
 bm:w.heap.size+1<m4
 pm:p≠m4
 k1:m1<w3.heap.size
 k2:m2<w3.heap.size
 k3:m3<w3.heap.size
 bg:∀G,g3=(O G 0)->B3<=G/\G<w3.heap.size
section
variable {x:Flt} {w w3:World} {p m1 m2 m3 m4:Nat} {g1:OA} {q1:Nat} {g2:OA} {q2:Nat} {g3:OA} {q3 B1 B2 B3 n k:Nat} {y:Flt} {W:World}
theorem PJ.br(h:PJ x w w3 p m1 m2 m3 m4 g1 q1 g2 q2 g3 q3 B1 B3 n k y W)(c:PJc x w w3 p m1 m2 m3 m4 g1 q1 g3 B1 B2 B3):sB B1 W g1 y.berths:=by
 have h9:=c.ot.keep (w':=W) h.hT (λb a1 a2 a3=>h.bl b a1 a3 (λe=>by have:=c.bg b e;have:=c.b4;omega));rw[h.e1];exact OwnN.berths (h9.own StrC.holds).own c.szb (by have:=c.lb;unfold maxLen;omega)
theorem PJ.cp(h:PJ x w w3 p m1 m2 m3 m4 g1 q1 g2 q2 g3 q3 B1 B3 n k y W)(c:PJc x w w3 p m1 m2 m3 m4 g1 q1 g3 B1 B2 B3):sC B1 W g3 y.copies:=by
 have h9:=OwnN.copies (h.oc.own LikC.holds).own h.sz (by have:=(Bh h.hv).2.1;unfold maxLen;omega);exact h9.keep CpyC.holds (Keeps.refl _ _) (lT c.b3 c.b4)
theorem PJ.below(h:PJ x w w3 p m1 m2 m3 m4 g1 q1 g2 q2 g3 q3 B1 B3 n k y W){W':World}(hb:bW W W'):PJ x w w3 p m1 m2 m3 m4 g1 q1 g2 q2 g3 q3 B1 B3 n k y W' :=
 ⟨h.st,h.hv,h.wc,h.e0,h.e1,h.e2,h.el,h.sz,h.fm.below hb,h.oc.below hb,λb a1 a2 a3=>(hb.block b (lL a2 h.hT)).trans (h.bl b a1 a2 a3),h.bw.trans (hb.mono h.bw.size),lT h.hT hb.size,h.zf.below hb h.zf.lt⟩
theorem PJ.low(h:PJ x w w3 p m1 m2 m3 m4 g1 q1 g2 q2 g3 q3 B1 B3 n k y W)(c:PJc x w w3 p m1 m2 m3 m4 g1 q1 g3 B1 B2 B3){W':World}(hb:Below w3.heap.size W W'):PJ x w w3 p m1 m2 m3 m4 g1 q1 g2 q2 g3 q3 B1 B3 n k y W':=by
 obtain⟨f1,f2,f3,f4,f5,f6,f7⟩:=h.fm;have hp:p<w3.heap.size:=by have:=c.b1;have:=c.b3;have:=c.b4;have:=c.b5;omega
 have hm:m4<w3.heap.size:=by have:=c.b2;have:=c.b3;have:=c.b4;have:=c.b5;omega
 have hw:w.heap.size+1<w3.heap.size:=by have:=c.bp;omega
 exact⟨h.st,h.hv,h.wc,h.e0,h.e1,h.e2,h.el,h.sz,⟨λj v hj=>(hb.cell (p:=(E p (0+j))) hp).trans (f1 j v hj),lL f2 hb.size,Ag f3 hb c.k1,Ag f4 hb c.k2,Ag f5 hb c.k3,f6.below hb hm,f7⟩,h.oc.keep hb.size (λx _ h2 _=>hb.block x h2),λb a1 a2 a3=>(hb.block b a2).trans (h.bl b a1 a2 a3),h.bw.trans (hb.mono (by omega)),lT h.hT hb.size,h.zf.below hb hw⟩
theorem PJ.row(h:PJ x w w3 p m1 m2 m3 m4 g1 q1 g2 q2 g3 q3 B1 B3 n k y W)(hl:0<y.copies.length):∃G,g3=(O G 0):=by
 obtain⟨cs,h9,_⟩:=h.oc.own LikC.holds;rcases h9.2 with⟨e9,e8⟩|⟨g,cap,cur,e9,_⟩
 .omega
 injection e9 with e7;exact⟨g,e7⟩
theorem PJ.but(h:PJ x w w3 p m1 m2 m3 m4 g1 q1 g2 q2 g3 q3 B1 B3 n k y W)(c:PJc x w w3 p m1 m2 m3 m4 g1 q1 g3 B1 B2 B3){W':World}{n':Nat}(hb:But m4 W.heap.size W W')(hm:MemoAt m4 n' y.berths W'){j:Nat}{d:Cpy}(hd:y.copies[j]?=some d)(hne:y.berths≠[]):PJ x w w3 p m1 m2 m3 m4 g1 q1 g2 q2 g3 q3 B1 B3 n' k y W' :=
 ⟨h.st,h.hv,h.wc,h.e0,h.e1,h.e2,h.el,h.sz,h.fm.but hb hm hne (Jf h.hv hd) (Iw hd),h.oc.but hb (.inr (by have:=c.b2;have:=c.b3;have:=c.b4;omega)),λb a1 a2 a3=>(hb.block b (lL a2 h.hT) (by have:=c.b2;omega)).trans (h.bl b a1 a2 a3),h.bw.trans (hb.below h.bw.size (by have:=c.bm;omega)),lT h.hT hb.size,(hb.block _ h.zf.lt (by have:=c.bm;omega)).trans h.zf⟩
theorem PJ.put{G c0:Nat}{d:Cpy}{z:Nat×Brt}(h:PJ x w w3 p m1 m2 m3 m4 g1 q1 g2 q2 (O G 0) q3 B1 B3 n k y W)(c:PJc x w w3 p m1 m2 m3 m4 g1 q1 (O G 0) B1 B2 B3)(hq:Fv y=some (c0,z))(hd:y.copies[c0]?=some d){W':World}(hb:Below W.heap.size (W.setCell (E G (c0*12+11)) (Y z.2.name)) W'):PJ x w w3 p m1 m2 m3 m4 g1 q1 g2 q2 (O G 0) q3 B1 B3 n (k+1) (Ip y c0 d z.2.name) W':=by
 have hs:=Tz hq hd;obtain⟨hG1,hG2⟩:=c.bg G rfl;have hS:(W.setCell (E G (c0*12+11)) (Y z.2.name)).heap.size=W.heap.size:=by simp[World.setCell]
 have hbl:∀b,b<W.heap.size->b≠G->W'.heap[b]?=W.heap[b]?:=λb h1 h2=>(hb.block b h1).trans (Below.heap_setCell _ _ _ b h2)
 have hz:z.2.name.size<=maxLen:=by
  obtain⟨_,_,y',hq',hy',_,hc',_,_⟩:=Jw hs;rw[hq]at hq';cases hq'
  have:=Ku ((Au h.hv).2.2.1 _ _ (Gg hc').1).1;unfold maxLen;omega
 have hG3:G<W.heap.size:=by have:=h.hT;omega
 have hGp:p≠G:=by have:=c.b1;have:=c.b3;have:=c.b4;omega
 have hGm:m4≠G:=by have:=c.b2;have:=c.b3;have:=c.b4;omega
 refine⟨?_,Oy h.hv hs,?_,h.e0,h.e1,h.e2,(Gb _ _ _ _).trans h.el,?_,?_,?_,λb a1 a2 a3=>(hbl b (lL a2 h.hT) (λe=>a3 (by rw[e]))).trans (h.bl b a1 a2 a3),?_,lT h.hT (by have:=hb.size;omega),(hbl _ h.zf.lt (by have:=c.b0;have:=c.b3;have:=c.b4;omega)).trans h.zf⟩
 .have h9:=h.st
  rw[Kh (x':=Ip y c0 d z.2.name) (s:=(d.name,z.2.name)) (by rw[h9];exact hs)]
 .have:=Rg h.hv hs
  have:=h.wc;omega
 .intro e he
  obtain⟨i,hi⟩:=List.getElem?_of_mem he;rw[Pa hd]at hi;by_cases ei:c0=i
  .rw[if_pos ei]at hi
   cases hi
   obtain⟨t1,t2,t3,t4,t5,_⟩:=h.sz d (List.mem_of_getElem? hd);exact⟨t1,t2,t3,t4,t5,hz⟩
  rw[if_neg ei]at hi;exact h.sz e (List.mem_of_getElem? hi)
 .have hsm:∀{m l:Nat} {D:DataW Unit},W.ownsMap prog 9 (plainElem prog 3) m l D->W'.ownsMap prog 9 (plainElem prog 3) m l D:=λ{m l D} q=>by
   have hne:m≠G:=mA q (Zh (w:=W) (a:=(E G (c0*12))) (OwnN.nameCell (h.oc.own LikC.holds).own hd));obtain⟨es,clock,q1,q2⟩:=q;exact⟨es,clock,(hbl m (Array.getElem?_eq_some_iff.1 q1).1 hne).trans q1,q2⟩
  obtain⟨f1,f2,f3,f4,f5,f6,f7,f8,f9,f10⟩:=h.fm;have hn:=Zv hd z.2.name;refine⟨λj v hj=>?_,lL f2 (by have:=hb.size;omega),hsm f3,hsm f4,?_,f6.same (hbl m4 f6.lt hGm),f7,f8,f9,λ_=>f10 (Iw hd)⟩
  .unfold wT at hj;rw[Gb]at hj
   exact(World.cell?_of_block (a:=(E p (0+j))) (hbl p f2 hGp)).trans (f1 j v hj)
  rw[Gb,hn];exact hsm f5
 .have h9:=(h.oc.setAt hd z.2.name).below (w':=W') (by unfold bW;rw[hS];exact hb)
  rw[Gb];exact h9
 exact(h.bw.setCell (p:=(E G (c0*12+11))) (by show w.heap.size<=G;have:=c.b0;have:=c.b3;have:=c.b4;omega) _).trans (hb.mono h.bw.size)
end
theorem Xq(x:Flt)(a1:OA)(c1:Nat)(a2:OA)(c2:Nat)(a3:OA)(c3 lo:Nat)(w:World)(n1:sB lo w a1 x.berths)(n2:sV lo w a2 x.services)(n3:sC lo w a3 x.copies)(l1:x.berths.length<=1048576)(l2:x.services.length<=1048576)(l3:x.copies.length<=1048576)(hsm:SmB x.berths/\Wd x.services 1048576/\SmC x.copies) :
  Calls prog 7 #[.agg (ffA x a1 c1 a2 c2 a3 c3)] w λe w'=>CA x w e w':=by
 obtain⟨w0,hw0,HX,HZ,HB⟩:=alT w (ffA x a1 c1 a2 c2 a3 c3) FfA 32 32;have N1:=iH n1;have N2:=iH n2;have N3:=iH n3;have HSM:=iH hsm;clear n1 n2 n3 hsm;go_enter func7,ntmps7;go_upto_region 1 with fail;rw[<-hw0];clear hw0;have hs0:w.heap.size+1<w0.heap.size:=HZ.out.lt;have HRX:=iH HX.out.rangeA;go_wp2_with(first|(refine qLr Mc HRX ?_));refine(Vx x a1 c1 a2 c2 a3 c3 lo w0 (N1.out.below BrtC.holds HB nL) (N2.out.below SvcC.holds HB nL) (N3.out.below CpyC.holds HB nL) l1 l2 l3).mono ?_;rintro e w1⟨v,rfl,hb1,hfd⟩;have hs1:w0.heap.size<=w1.heap.size:=hb1.size;have HB1:=iH (HB.out.trans (hb1.mono (by omega)));have HX1:=qBk HX hb1;have HZ1:=qBk HZ hb1;clear HB HX HZ HRX hb1
 cases hv:Bb x with
 | false =>
  have HPA:Hid (plA x=(noF,[])):=by show _=_;unfold plA;rw[if_neg (by rw[hv];decide)]
  clear hfd hv;have HTZ:=iH HZ1.out.there;obtain⟨wf,HE⟩:∃wf,Hid (wf=w1.setCells (w.heap.size+1) 0 FfL):=⟨_,rfl⟩;have HRf:Hid (wf.rangeAt (w.heap.size+1) 0 FfL):=by
   show World.rangeAt _ _ _ _
   rw[HE.out];exact World.rangeAt_setCells_same w1 (w.heap.size+1) 0 _ HTZ
  have HBf:Hid (bW w wf/\w.heap.size<wf.heap.size):=by
   show _/\_
   rw[HE.out,Be];exact⟨Ae (by omega) _ _ _ HB1,by omega⟩
  go_wp2_with(first|(refine Ai rfl 32 _ _ rfl (w.heap.size+1) 0 FfA rfl rfl HTZ Cf (by simp[Value.oneCell']) wf HE ?_));refine bodyPost_ret (fC rfl _ _ (w.heap.size+1) FfL _ rfl HRf underlying32 rfl Cf) rfl ⟨_,none,0,wf.heap.size,by rw[HPA.out];rfl,?_,HBf.out.2,Nat.le_refl _,by rw[HPA.out];exact World.ownsRow_nil _ _ _ _,HBf.out.1⟩;rw[HPA.out];exact NwRes.noD (by rw[Ez nL];exact HBf.out.2) (Un HBf.out.1 nL (by have:=HBf.out.2;omega) nL)
 | true =>
  obtain⟨p,m1,m2,m3,m4,rfl,hp,hm4,hF⟩:=hfd hv;have HF1:=iH hF;have HV:=iH hv;have hpl1:p<w1.heap.size:=hF.1.2.1;have hm4l:m4<w1.heap.size:=(FoundM.of hF.1).memo.lt;clear hfd hF hv;have HRX:=iH HX1.out.rangeA;go_wp2_with(first|(refine qLr Mc HRX ?_));clear HRX;refine(bU x a1 c1 a2 c2 a3 c3 lo w1 (N1.out.below BrtC.holds HB1 nL) (N2.out.below SvcC.holds HB1 nL) (N3.out.below CpyC.holds HB1 nL) l2 l1 l3 HSM.out.1 HSM.out.2.1 HSM.out.2.2).mono ?_;rintro e w2⟨g1,q1,g2,q2,g3,q3,B1,B2,B3,rfl,z0,z1,z2,z3,z4,hT,_,hos,hot,hoc,hb2⟩;have hs2:w1.heap.size<=w2.heap.size:=hb2.size;have HB2:=iH (HB1.out.trans (hb2.mono (by omega)));have HZ2:=qBk HZ1 hb2;have HF2:=iH (HF1.out.below hb2);have HTH:=iH (uV HF2);obtain⟨w3,HE3⟩:∃w3,Hid (w3=(w2.setCells p 0 (ffL x g1 q1 g2 q2 g3 q3))):=⟨_,rfl⟩;have HF3:Hid (FoundM p m1 m2 m3 m4 0 x g1 q1 g2 q2 g3 q3 w3):=by
   show FoundM _ _ _ _ _ _ _ _ _ _ _ _ _ _
   rw[HE3.out];exact FoundM.of (HF2.out.fleet g1 q1 g2 q2 g3 q3)
  have HG3:Hid (w2.heap.size=w3.heap.size/\(∀k,k≠p->w3.heap[k]?=w2.heap[k]?)/\bW w w3):=by
   show _/\_
   rw[HE3.out,Be];exact⟨rfl,λk hk=>Aw hk _ _ _,Ae (by omega) _ _ _ HB2⟩
  have hs3:=HG3.out.1;have HZ3:Hid (Blk (w.heap.size+1) FfA 32 w3):=(HG3.out.2.1 _ (by omega)).trans HZ2;have HT3:Hid (OwnT vBr Brt.marks StrC 1 6 2 92 B1 B2 w3 (.slice g1 x.berths.length q1) x.berths):=hT.keep (by omega) (λk h1 _ _=>HG3.out.2.1 k (by omega));have HC3:Hid (lM B3 w3.heap.size w3 (.slice g3 x.copies.length q3) x.copies):=⟨w2,hoc,by omega,by omega,λk h1 _=>HG3.out.2.1 k (by omega)⟩;have HOS:=iH hos;have HOT:=iH hot;have hgb:∀G,g3=(O G 0)->B3<=G/\G<w3.heap.size:=λG e=>by
   obtain⟨cs,h9,_⟩:=hoc;have:=h9.lt G (by rw[e];rfl);omega
  have HW3:Hid (∀k,k≠p->w3.heap[k]?=w2.heap[k]?):=HG3.out.2.1;have HCJ:Hid (PJc x w w3 p m1 m2 m3 m4 g1 q1 g3 B1 B2 B3):=⟨HT3,zS N1,l1,by omega,by omega,by omega,z2,z3,by omega,by omega,by omega,(FoundM.of HF1.out.1).2.2.2.2.2.2.1,HF3.out.2.2.1.lt,HF3.out.2.2.2.1.lt,HF3.out.2.2.2.2.1.lt,hgb⟩;have HPJ:Hid (PJ x w w3 p m1 m2 m3 m4 g1 q1 g2 q2 g3 q3 B1 B3 0 0 x w3):=⟨rfl,HV,yS HV,rfl,rfl,rfl,rfl,kL N3,HF3,HC3,λb _ _ _=>rfl,HG3.out.2.2,Nat.le_refl _,HZ3⟩;clear hT hos hot hoc hb2 HB1 HX1 HZ1 HB2 HZ2 HF1 HF2 HF3 HG3 HZ3 HT3 HC3 hgb;go_upto_region 6 with(first|(refine Ai rfl 32 _ _ rfl p 0 (ffA x g1 q1 g2 q2 g3 q3) rfl rfl HTH Cf (by simp[Value.oneCell']) w3 HE3 ?_));obtain⟨i0,hi0,hy0,hy1,hy2⟩:=info_parts fI;have HI0:=iH hi0;clear hi0 HTH HE3;go_loopw [6] (λs wr=>∃(k:Nat)(y:Flt)(sa:OA)(sc:Nat),s=.slice sa (stP x k).2.length sc/\k<=60/\Hid (PJ x w w3 p m1 m2 m3 m4 g1 q1 g2 q2 g3 q3 B1 B3 (10000*k) k y wr)/\Hid (wr.ownsRow w3.heap.size 49 3 (.slice sa (stP x k).2.length sc) (stP x k).2.length (Jy (stP x k).2))/\Hid ((stP x k).2.length=k)) (λs _=>61-xU s)
  case atStart=>exact⟨0,x,none,0,rfl,by omega,HPJ,World.ownsRow_nil _ _ _ _,rfl⟩
  clear HPJ;obtain⟨k,y,sa,sc,rfl,hk,HP,HS,HL⟩:=hrel;go_wp2_with fail;refine(pL B1 p m1 m2 m3 m4 (10000*k) y g1 q1 g2 q2 g3 q3 wr HP.out.fm (by omega) (HP.out.br HCJ) (HP.out.cp HCJ) HP.out.hv).mono ?_;rintro e w4⟨rfl,hb4,hm5⟩;have hs4:=hb4.size;have HB4:=iH hb4;have HM4:=iH hm5;clear hb4 hm5
  cases hq:Fv y with
  | none =>
   simp only[fsC,fsB,Option.isSome_none];have HEND:Hid (plA x=stP x k):=by
    show _=_
    unfold plA;rw[if_pos HV.out];exact mJ (by rw[HP.out.st];exact Yt hq) hk
   have hbm:=HCJ.out.bm
   have HR4:Hid (w4.rangeAt p 0 (ffL y g1 q1 g2 q2 g3 q3)):=λj v hj=>(HB4.out.cell (a:=(E p (0+j))) HP.out.fm.2.1 HCJ.out.pm).trans (HP.out.fm.1 j v (by
    have hj2:=Af hj;have hj':j=0\/j=1\/j=2\/j=3:=by simp at hj2;omega
    rcases hj' with rfl|rfl|rfl|rfl<;>exact hj))
   have HZ4:Hid (Blk (w.heap.size+1) FfA 32 w4):=(HB4.out.block _ HP.out.zf.lt (by omega)).trans HP.out.zf;have HTZ:=iH HZ4.out.there;obtain⟨w5,HE5⟩:∃w5,Hid (w5=w4.setCells (w.heap.size+1) 0 (ffL y g1 q1 g2 q2 g3 q3)):=⟨_,rfl⟩;have HR5:Hid (w5.rangeAt (w.heap.size+1) 0 (ffL y g1 q1 g2 q2 g3 q3)):=by
    show World.rangeAt _ _ _ _
    rw[HE5.out];exact World.rangeAt_setCells_same w4 (w.heap.size+1) 0 _ HTZ
   have HK5:Hid (w4.heap.size=w5.heap.size/\(∀k,k≠w.heap.size+1->w5.heap[k]?=w4.heap[k]?)/\bW w w5):=by
    show _/\_
    rw[HE5.out,Be];exact⟨rfl,λk hk=>Aw hk _ _ _,Ae (by omega) _ _ _ (HP.out.bw.trans (HB4.out.below HP.out.bw.size (by omega)))⟩
   have HBL:Hid (∀b,b≠w.heap.size+1->b≠m4->b<wr.heap.size->w5.heap[b]?=wr.heap[b]?):=λb h1 h2 h3=>(HK5.out.2.1 b h1).trans (HB4.out.block b h3 h2)
   clear hq HZ4;go_wp2_with(first|(refine qLr Mc HR4 ?_)|(refine Ai rfl 32 _ _ rfl (w.heap.size+1) 0 (ffA y g1 q1 g2 q2 g3 q3) rfl rfl HTZ Cf (by simp[Value.oneCell']) w5 HE5 ?_));refine bodyPost_ret (fC rfl _ _ (w.heap.size+1) (ffL y g1 q1 g2 q2 g3 q3) _ rfl HR5 underlying32 rfl Cf) rfl ?_;have hT:=HP.out.hT;have hcz:(Qh w5 w3.heap.size).heap.size=w3.heap.size:=Ez (by have:=HK5.out.1;omega);have hce:∀b,b<w3.heap.size->b≠w.heap.size+1->b≠m4->(Qh w5 w3.heap.size).heap[b]?=wr.heap[b]?:=λb h1 h2 h3=>(Tl h1).trans (HBL b h2 h3 (by omega))
   have hcb:∀b,B1<=b->b<w3.heap.size->g3≠(O b 0)->(Qh w5 w3.heap.size).heap[b]?=w3.heap[b]?:=λb h1 h2 h3=>(hce b h2 (by have:=HCJ.out.b0;omega) (by have:=HCJ.out.b2;omega)).trans (HP.out.bl b h1 h2 h3)
   have hgn:∀b,b<B3->g3≠(O b 0):=λb h1 e=>by have:=(HCJ.out.bg b e).1;omega
   have hot:OwnT vBr Brt.marks StrC 1 6 2 92 B1 B2 (Qh w5 w3.heap.size) (.slice g1 x.berths.length q1) x.berths:=HCJ.out.ot.keep (by omega) (λb h1 h2 h3=>hcb b h1 h3 (hgn b (by omega)))
   have hos:=Ev (w':=Qh w5 w3.heap.size) HOS (λb hb=>by
    have h1:=HOS.out.lt b hb;have h2:=HOT.out b hb
    exact(hcb b (by omega) (by omega) (hgn b h2)).trans (HW3 b (by have:=HCJ.out.b1;omega)))
   have hoc:Sj B3 (Qh w5 w3.heap.size) (.slice g3 y.copies.length q3) y.copies:=by
    obtain⟨W0,t1,t2,t3⟩:=HP.out.oc;exact t1.kpb LikC.holds ⟨by omega,λb h1 h2=>(hce b (by omega) (by have:=HCJ.out.b0;omega) (by have:=HCJ.out.b2;omega)).trans (t3.2 b h1 h2)⟩
   refine⟨_,sa,sc,w3.heap.size,by rw[HEND.out];rfl,?_,by have:=HCJ.out.bp;have:=HCJ.out.b1;omega,by have:=HK5.out.1;omega,?_,HK5.out.2.2⟩
   .rw[show(plA x).1=y by rw[HEND.out];exact HP.out.st]
    refine⟨g1,q1,g2,q2,g3,q3,B1,B2,B3,rfl,by omega,by omega,z2,z3,by omega,?_,?_,?_,?_,hoc,Un HK5.out.2.2 nL (by have:=HCJ.out.bp;have:=HCJ.out.b1;omega) (by have:=HK5.out.1;omega)⟩
    .rw[HP.out.e1];exact hot
    .rw[HP.out.e1];exact hot.own StrC.holds
    .rw[HP.out.e2];exact hos
    rw[HP.out.e2];exact HOT.out
   rw[HEND.out];exact Ev (w':=w5) HS (λb hb=>HBL.out b (by have:=(HS.out.lt b hb).1;have:=HCJ.out.b0;omega) (by have:=(HS.out.lt b hb).1;have:=HCJ.out.b2;omega) (HS.out.lt b hb).2)
  | some cz =>
   obtain⟨c0,z⟩:=cz;simp only[fsC,fsB,Option.isSome_some];obtain⟨hmem,hch⟩:=Mo hq;have hcl:=Sd hmem;obtain⟨d,hd⟩:=gXe hcl;have hz:y.berths[z.1]?=some z.2:=by
    unfold chF at hch;rw[hd]at hch;exact(Gg hch).1
   obtain⟨G,rfl⟩:=HP.out.row (by omega);have H4:=iH (HP.out.but HCJ HB4 HM4 hd (Iw hz));have hbn:=Ku ((Au HP.out.hv).2.2.1 _ _ hz).1;have hyn:=Ku (Rb HP.out.hv hd);have kn:=OwnN.nameCell (H4.out.oc.own LikC.holds).own hd;obtain⟨kz,fz⟩:=OwnN.atCell (H4.out.oc.own LikC.holds).own hd;have HST:=iH (dJ p G q3 y.copies.length c0 z.1 d.name d.at_ y.berths z.2 g1 q1 B1 w4 (H4.out.fm.1 3 _ rfl) (H4.out.fm.1 1 _ rfl) hcl kn kz fz (H4.out.br HCJ) hz (by omega) (by omega));have HNX:Hid ((stP x (k+1)).2=(stP x k).2++[(d.name,z.2.name)]):=by
    show _=_
    rw[Kh (by rw[HP.out.st];exact Tz hq hd)]
   have HQ:=iH hq;have HD:=iH hd;have hrow4:=Ev (w':=w4) HS (λb hb=>HB4.out.block b (HS.out.lt b hb).2 (by have:=(HS.out.lt b hb).1;have:=HCJ.out.b2;have:=HCJ.out.b3;have:=HCJ.out.b4;have:=HCJ.out.b5;omega));have HS4:=iH hrow4;clear hq hd hmem hch kn kz fz hz HP HB4 HM4 HS hrow4;go_wp2_with fail;refine HST.out.mono ?_;rintro e w5⟨rfl,hb5⟩;have H5:=iH (H4.out.put HCJ HQ HD hb5);have hG:=(HCJ.out.bg G rfl).2;have hs5:w4.heap.size<=w5.heap.size:=by have:=hb5.size;simpa[World.setCell]using this
   have HS5:=iH (Ev (w':=w5) HS4 (λb hb=>(hb5.block b (HS4.out.lt b hb).2).trans (Below.heap_setCell _ _ _ b (by have:=(HS4.out.lt b hb).1;show b≠G;omega))));clear hb5 HST H4 HS4;go_wp2_with(at_builtin;refine wpList_append_lies _ rfl (.tmp 36) (.tmp 41) 33 rfl w3.heap.size 49 i0 _ 3 56 underlying33 HI0 hy0 hy1 hy2 rfl (by decide) (.slice sa (stP x k).2.length sc) (stP x k).2.length _ rfl (Ak HS5 ((Below.refl _ _).alloc nL _)) (E w5.heap.size 0) 1 1 [Y d.name,Y z.2.name,.slice none 0 0] rfl rfl (nB (Blk.alloc _ _ _)) (by intro u hu;simp at hu;rcases hu with rfl|rfl|rfl<;>rfl) (by omega) (by have:=HL.out;unfold maxLen;omega) (by have:=HL.out;omega) (by simp;have:=H5.out.hT;omega) _ rfl ?_;intro g cap w6 hown hgrow hto hgl);have hba:∀o,bW w5 (w5.alloc o):=λo=>(Below.refl _ w5).alloc nL _
   have h6:=(H5.out.below (hba _)).low HCJ ((Below.refl w3.heap.size _).grown hgrow (lT H5.out.hT (hba _).size) (λb e=>(HS5.out.lt b e).1));have hlen:=HL.out;refine⟨⟨k+1,Ip y c0 d z.2.name,(O g 0),cap,?_,by have:=h6.wc;omega,?_,?_,?_⟩,?_⟩
   .rw[HNX.out,List.length_append,List.length_singleton]
   .rw[show 10000*(k+1)=10000*k+10000 by omega]
    exact h6
   .show World.ownsRow _ _ _ _ _ _ _
    rw[HNX.out,List.length_append,List.length_singleton,Yr];exact hown
   .show _=_
    rw[HNX.out,List.length_append,List.length_singleton,hlen]
   simp only[xU];omega
end Go.Proofs.YthboopnmbglkjaaGreat
