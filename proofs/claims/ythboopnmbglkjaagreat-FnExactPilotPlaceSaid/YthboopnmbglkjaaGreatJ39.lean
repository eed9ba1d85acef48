import Derived.Test.YthboopnmbglkjaaGreatJ38
set_option maxHeartbeats 4000000
set_option maxRecDepth 100000
namespace Go.Proofs.YthboopnmbglkjaaGreat
open Go.RowKit Go.WideMaps Go.Maps Tryz
attribute [local go_sem] Oper.semAt_some
theorem Ii{α:Type}{f:α->Bool}{pre:List α}{s:α}(h:pre.any f=false)(hs:f s=false):(pre++[s]).any f=false:=by simp only[List.any_append,h,List.any_cons,hs,List.any_nil,Bool.or_false]
theorem Mj{α:Type}{f:α->Bool}{pre:List α}{s:α}(hs:f s=true):(pre++[s]).any f=true:=by simp only[List.any_append,List.any_cons,hs,List.any_nil,Bool.or_false,Bool.or_true]
theorem Du{fn:Func}{p:Tmp}(h:fn.results=#[.cell p 4])(tmps:Array Value)(w:World)(g:Nat)(q:Bool)(hp:tmps.getD p undef=pP g 0)(hc:w.cell? (E g 0)=some (.bool q)) :
  (results fn tmps).run prog w=.ok (.bool q) w:=by
 have hp':tmps[p]?.getD undef=pP g 0:=by simpa using hp
 have hl:(loadVar 4 (E g 0)).run prog w=.ok (.bool q) w:=by simp[go_sem,hc]
 simp[results,h,hp',asAddr,hl]
def mxI(a c:Int):Int:=if a<c then c else a
def Mf(y:Cpy)(b:Brt)(s:StX):Bool:=(decide (mxI y.apart s.c.apart≠0)&&decide (s.b.name=b.name))||(decide (mxI y.apart s.c.apart=2)&&decide (s.b.zone=b.zone))
def Lr(y:Cpy)(b:Brt)(xs:List StX)(q:Bool):Prop:=xs.any (Mf y b)=q
theorem Vk{y:Cpy}{b:Brt}{s:StX}(h1:mxI y.apart s.c.apart≠0)(h2:s.b.name=b.name):Mf y b s=true:=by
 unfold Mf;rw[decide_eq_true h1,decide_eq_true h2];rfl
theorem Ug{y:Cpy}{b:Brt}{s:StX}(h1:mxI y.apart s.c.apart=2)(h2:s.b.zone=b.zone):Mf y b s=true:=by
 unfold Mf;rw[decide_eq_true h1,decide_eq_true h2];simp
theorem Ka{y:Cpy}{b:Brt}{s:StX}(h1:¬(mxI y.apart s.c.apart≠0/\s.b.name=b.name))(h2:¬(mxI y.apart s.c.apart=2/\s.b.zone=b.zone)):Mf y b s=false:=by
 unfold Mf;rw[Bool.or_eq_false_iff,Bool.and_eq_false_iff,Bool.and_eq_false_iff];constructor
 .by_cases h:mxI y.apart s.c.apart≠0
  .exact Or.inr (decide_eq_false (λe=>h1 ⟨h,e⟩))
  exact Or.inl (decide_eq_false h)
 by_cases h:mxI y.apart s.c.apart=2
 .exact Or.inr (decide_eq_false (λe=>h2 ⟨h,e⟩))
 exact Or.inl (decide_eq_false h)
theorem tN{y:Cpy}{b:Brt}{s:StX}{zo:BA}(h1:0<=y.apart/\y.apart<=2)(h2:0<=s.c.apart/\s.c.apart<=2)(hn:s.b.name=s.c.at_)(hz:zo=s.b.zone):Mf y b s=Ls s.c.apart y.apart (decide (s.c.at_=b.name)) (decide (zo=b.zone)):=by
 unfold Mf Ls;rw[hn,hz];have e1:decide (mxI y.apart s.c.apart≠0)=(decide (s.c.apart≠0)||decide (y.apart≠0)):=by
  rw[Bool.eq_iff_iff];simp only[decide_eq_true_eq,Bool.or_eq_true];unfold mxI
  split<;>omega
 have e2:decide (mxI y.apart s.c.apart=2)=(decide (s.c.apart=2)||decide (y.apart=2)):=by
  rw[Bool.eq_iff_iff];simp only[decide_eq_true_eq,Bool.or_eq_true];unfold mxI
  split<;>omega
 rw[e1,e2,Bool.and_comm,Bool.and_comm (_||_) (decide (s.b.zone=b.zone))]
theorem Kr{x:Flt}(hv:Bb x=true)(ci:Nat)(y:Cpy)(b:Brt)(hya:0<=y.apart/\y.apart<=2):∀n xs,Hh x ci y.service n xs->Cy (Ov x ci y b) n=xs.any (Mf y b)
 |0,xs,h=>by
  have:xs=[]:=h;subst this;rfl
 | n+1,xs,h=>by
  obtain⟨_,hbN,hbr,hcp⟩:=Au hv
  cases hc:x.copies[n]? with
  |none =>
   simp only[Hh,hc]at h;rw[Bu (by unfold Ov;rw[hc])];exact Kr hv ci y b hya n xs h
  | some c =>
   simp only[Hh,hc]at h;by_cases hcd:n≠ci/\c.service=y.service
   .rw[if_pos hcd]at h
    cases hj:Ar (brN x) c.at_ x.berths.length with
    | none =>
     rw[hj]at h;have hat:c.at_=⟨#[]⟩:=by
      rcases(hcp n c hc).2.2 with e|⟨s,e⟩
      .exact e
      rw[hj]at e;cases e
     rw[Bu (Jo hc (λk=>k.2.2.1 hat))];exact Kr hv ci y b hya n xs h
    | some j =>
     rw[hj]at h;obtain⟨pre,s,rfl,hsc,hsb,hpre⟩:=h;have ih:=Kr hv ci y b hya n pre hpre;obtain⟨b',hb',hbn,hbz⟩:=bY hbN hj;rw[hsb]at hb';cases hb'
     have hat:¬c.at_=⟨#[]⟩:=by
      intro e;rw[e,aP hbr]at hj;cases hj
     have hne:=tN (y:=y) (b:=b) (s:=s) (zo:=Cu x.berths c.at_) hya (by rw[hsc];exact((Dw hv).1 n c hc).2) (by rw[hsc];exact hbn) hbz;rw[hsc]at hne;rw[List.any_append,<-ih]
     cases hq:Mf y b s with
     |true =>
      rw[hq]at hne;rw[Ew (Pp hc hcd.1 hcd.2 hat hne.symm)];simp[hq]
     |false =>
      rw[hq]at hne;rw[Bu (Jo hc (λk=>by rw[<-hne]at k;cases k.2.2.2))];simp[hq]
   rw[if_neg hcd]at h;rw[Bu (Jo hc (λk=>hcd ⟨k.1,k.2.1⟩))];exact Kr hv ci y b hya n xs h
theorem dH(W:World)(lo p m1 m2 m3 m4 ci bi:Nat)(x:Flt)(a1:OA)(c1:Nat)(a2:OA)(c2:Nat)(a3:OA)(c3:Nat)(y:Cpy)(a7:OA)(c7:Nat)(b:Brt)(am:OA)(cm:Nat)(u1 u2 u3:Int)(hK:SpotK W lo ci bi x a1 a3 y a7 b am) :
  nE 182 (Jr x ci y b) W p m1 m2 m3 m4 ci bi x a1 c1 a2 c2 a3 c3 y a7 c7 b am cm u1 u2 u3:=by
 intro n w hn hW hF;obtain⟨n1,n3,n7,nm,hv,hy,hb⟩:=hK;obtain⟨_,l3,_,_,_,_⟩:=Bh hv;obtain⟨_,_,hbr,hcp⟩:=Au hv;obtain⟨hbn,hbz,_,_⟩:=hbr bi b hb;have HBN:=iH (Gx hbn);have HAP:=iH (Dw hv).1;have HW:=iH hW;have HF:=iH hF;have N1:=iH n1;have N3:=iH n3;have HV:=iH hv;have HY:=iH hy;have HB:=iH hb;have hpl:p<w.heap.size:=hF.2.1;have hm1w:m1<w.heap.size:=hF.2.2.1.lt;have hm4w:m4<w.heap.size:=hF.memo.lt;have hwW:W.heap.size<=w.heap.size:=hW.size;clear hbn hbz hbr hcp hW hF n1 n3 n7 nm hv hy hb;refine(callsIn_wide (n:=7)).1 ?_;refine callsIn_of_wp_marks func182 rfl trivial ?_ rfl;refine wpIn_wide.2 ?_;simp only[ntmps182,List.size_toArray,List.length_cons,List.length_nil,Nat.reduceAdd,Nat.reduceSub,Array.replicate_succ,Array.replicate_zero,List.push_toArray,List.append_toArray,List.nil_append,List.cons_append];go_upto_region 1 with fail;have e0:Blk w.heap.size (An p ci bi y a7 c7 b am cm u1 u2 u3) 201 ((w.alloc (Obj.cells (An p ci bi y a7 c7 b am cm u1 u2 u3) 201)).alloc (Obj.cells #[.bool false] 4)):=(Blk.alloc w (An p ci bi y a7 c7 b am cm u1 u2 u3) 201).below ((Below.refl _ _).alloc nL _) (Blk.alloc w (An p ci bi y a7 c7 b am cm u1 u2 u3) 201).lt;have e1:Blk (w.heap.size+1) #[.bool false] 4 ((w.alloc (Obj.cells (An p ci bi y a7 c7 b am cm u1 u2 u3) 201)).alloc (Obj.cells #[.bool false] 4)):=by
  have h:=Blk.alloc (w.alloc (Obj.cells (An p ci bi y a7 c7 b am cm u1 u2 u3) 201)) #[.bool false] 4;simpa using h
 have e2:bW w ((w.alloc (Obj.cells (An p ci bi y a7 c7 b am cm u1 u2 u3) 201)).alloc (Obj.cells #[.bool false] 4)):=((Below.refl _ w).alloc nL _).alloc (by simp) _;have HS1:=iH e0;have HZ1:=iH e1;have HB1:=iH e2;clear e0 e1 e2;generalize((w.alloc (Obj.cells (An p ci bi y a7 c7 b am cm u1 u2 u3) 201)).alloc (Obj.cells #[.bool false] 4))=w1 at *;have HF1:=iH (HF.out.below HB1);have hsz1:w.heap.size+1<w1.heap.size:=HZ1.out.lt;have s3:w1.cell? (E w.heap.size 3)=some (Y y.service):=HS1.out.cell rfl;go_wp2_with(first|(refine wpList_load_mid rfl 201 _ rfl w.heap.size 0 (by first|rfl|(simp[go_sem];done)) (An p ci bi y a7 c7 b am cm u1 u2 u3).toList _ HS1.out.rangeA underlying201 rfl Es ?_));refine(Lc (An p ci bi y a7 c7 b am cm u1 u2 u3) y.service _).mono ?_;rintro e w6⟨rfl,hw6⟩;have hb6:bW w1 w6:=by rw[hw6];exact((Below.refl _ w1).alloc nL _).alloc (by simp) _
 have HX6:Hid (Blk w1.heap.size (An p ci bi y a7 c7 b am cm u1 u2 u3) 201 w6):=by
  rw[hw6];exact(Blk.alloc w1 _ _).below ((Below.refl _ _).alloc nL _) (Blk.alloc w1 _ _).lt
 have HV6:Hid (Blk (w1.heap.size+1) #[Y y.service] 9 w6):=by
  rw[hw6];have h:=Blk.alloc (w1.alloc (Obj.cells (An p ci bi y a7 c7 b am cm u1 u2 u3) 201)) #[Y y.service] 9;show Blk _ _ _ _
  simpa using h
 have hF6:=HF1.out.below hb6;have HIT:Hid (ItIn p m1 w1.heap.size (w1.heap.size+1) ci x a1 c1 a3 c3 y.service w6):=⟨HX6.out.cell rfl,HX6.out.cell rfl,HV6.out.cell rfl,hF6.1 1 _ rfl,hF6.1 3 _ rfl,hF6.1 4 _ rfl,hF6.2.2.1⟩;have HS6:Hid (Blk w.heap.size (An p ci bi y a7 c7 b am cm u1 u2 u3) 201 w6):=HS1.out.below hb6 HS1.out.lt;have HZ6:Hid (Blk (w.heap.size+1) #[.bool false] 4 w6):=HZ1.out.below hb6 HZ1.out.lt;have HQ6:=qTH HB1 hb6;have HW6:=iH (HW.out.trans (HQ6.out.mono HW.out.size));have hs6:w1.heap.size+1<w6.heap.size:=HV6.out.lt;clear hw6 hb6 hF6 HX6 HV6 s3 HS1 HZ1 HF1;go_wp2_with fail
 refine wpIn_wide.1 (wpIn_rangeFunc_ownH (F:=Fence.wide) (n:=6) rfl (by omega) (gf:=188) (lb:=#[pP w1.heap.size 0,pP (w1.heap.size+1) 0]) rfl trivial (enters_of func188 (by kernel_rfl) rfl)
  (Hz p m1 w1.heap.size (w1.heap.size+1) ci (w.heap.size+1) w6.heap.size x a1 c1 a3 c3 y.service lo W w6 HW6 N1 N3 HIT l3 HW6.out.size (by omega) nL ⟨by omega,by omega⟩ ⟨by omega,by omega⟩ ⟨by omega,by omega⟩ ⟨by omega,by omega⟩)
  (λh1 h2=>h1.trans h2) (λW' l' o o' hl _ _ _=>⟨rfl,rfl,rfl,(grownBy_putObj' W' l' o').size,λk hk _=>World.putObj_heap_other (by omega)⟩) (Below.refl _ _) (λ_=>rfl)
  (λpre W'=>Blk w.heap.size (An p ci bi y a7 c7 b am cm u1 u2 u3) 201 W'/\Blk (w.heap.size+1) #[.bool false] 4 W'/\bW w W'/\w6.heap.size<=W'.heap.size/\Lr y b pre false)
  (λc pre W'=>c=Code.ret/\Blk (w.heap.size+1) #[.bool true] 4 W'/\bW w W'/\w6.heap.size<=W'.heap.size/\Lr y b pre true) ?_ ?_ ?_
  (λs a' W'=>∃Cx Bx,w6.heap.size<=Cx/\w6.heap.size<=Bx/\Blk Cx #[Y s.c.name,Y s.c.service,X s.c.rank,X s.c.born,X s.c.room,X s.c.hold,Y s.c.select,.slice s.a8 s.c.likes.length s.c8,X s.c.apart,Y s.c.near,Y s.c.fixed,Y s.c.at_] 54 W'/\Blk Bx #[Y s.b.name,Y s.b.zone,.slice s.am s.b.marks.length s.cm,X s.b.room,X s.b.hold,.bool s.b.closed] 92 W'/\a'={tmps:=#[.agg (An p ci bi y a7 c7 b am cm u1 u2 u3),pP w.heap.size 0,pP (w.heap.size+1) 0,pP Cx 0,pP Bx 0,undef,.agg (An p ci bi y a7 c7 b am cm u1 u2 u3),pP w.heap.size 2,pP w.heap.size 3,Y y.service,.func (.func 188) #[] #[pP w1.heap.size 0,pP (w1.heap.size+1) 0],(Sl s)[0],(Sl s)[1],undef,undef,undef,undef,undef,undef,undef,undef,undef,undef,undef,undef,undef,undef,undef,undef,undef,undef,undef,undef,undef,undef,undef,undef,undef,undef],defers:=[]}) ?_ ?_ ?_ ?_ ?_)
 .rintro s A B row⟨h1,h2,h3,h4,h5⟩hgr hr
  have hne:∀k,k<w6.heap.size->some k≠row:=λk hk e=>by have:=(hr _ e.symm).1;omega
  exact⟨h1.grown hgr (hne _ (by omega)),h2.grown hgr (hne _ (by omega)),h3.grown hgr h3.size (λk e=>lT HQ6.out.size (hr k e).1),lT h4 hgr.size,h5⟩
 .rintro c s A B row⟨h0,h2,h3,h4,h5⟩hgr hr
  have hne:∀k,k<w6.heap.size->some k≠row:=λk hk e=>by have:=(hr _ e.symm).1;omega
  exact⟨h0,h2.grown hgr (hne _ (by omega)),h3.grown hgr h3.size (λk e=>lT HQ6.out.size (hr k e).1),lT h4 hgr.size,h5⟩
 .exact⟨HS6,HZ6,HQ6,Nat.le_refl _,rfl⟩
 .rintro s a' _ A B row⟨Cx,Bx,h1,h2,h3,h4,h5⟩hgr hr
  refine⟨Cx,Bx,h1,h2,h3.grown hgr (λe=>?_),h4.grown hgr (λe=>?_),h5⟩
  .obtain⟨_,o,ho,hc⟩:=hr _ e.symm
   rw[show A.heap[Cx]?=_ from h3]at ho;cases ho
   cases hc
  obtain⟨_,o,ho,hc⟩:=hr _ e.symm;rw[show A.heap[Bx]?=_ from h4]at ho;cases ho
  cases hc
 .rintro l' pre s W' K⟨h1,h2,h3,h4,h5⟩hK
  have hKK:=iH hK;clear hK
  gi_wp2
  have hb1:bW W' ((W'.alloc (Obj.cells #[Y s.c.name,Y s.c.service,X s.c.rank,X s.c.born,X s.c.room,X s.c.hold,Y s.c.select,.slice s.a8 s.c.likes.length s.c8,X s.c.apart,Y s.c.near,Y s.c.fixed,Y s.c.at_] 54)).alloc (Obj.cells #[Y s.b.name,Y s.b.zone,.slice s.am s.b.marks.length s.cm,X s.b.room,X s.b.hold,.bool s.b.closed] 92)):=((Below.refl _ W').alloc nL _).alloc (by simp) _;refine hKK.out _ _ (((KeepsOthers.alloc _ _).trans (KeepsOthers.alloc _ _)).from _) (But.of_below (hb1.mono h4)) ⟨h1.below hb1 h1.lt,h2.below hb1 h2.lt,qTr h3 hb1,lT h4 hb1.size,h5⟩ ⟨W'.heap.size,W'.heap.size+1,h4,by omega,(Blk.alloc W' _ _).below ((Below.refl _ _).alloc nL _) (Blk.alloc W' _ _).lt,?_,rfl⟩;have h:=Blk.alloc (W'.alloc (Obj.cells #[Y s.c.name,Y s.c.service,X s.c.rank,X s.c.born,X s.c.room,X s.c.hold,Y s.c.select,.slice s.a8 s.c.likes.length s.c8,X s.c.apart,Y s.c.near,Y s.c.fixed,Y s.c.at_] 54)) #[Y s.b.name,Y s.b.zone,.slice s.am s.b.marks.length s.cm,X s.b.room,X s.b.hold,.bool s.b.closed] 92;simpa using h
 .rintro l' pre s a' W' hl' ⟨r',hr'⟩⟨h1,h2,h3,h4,h5⟩⟨Cx,Bx,hCx,hBx,hcx,hbx,rfl⟩hlt'
  have H1:=iH h1;have H2:=iH h2;have H3:=iH h3;have H4:=iH h4;have cA:W'.cell? (E Cx 8)=some (X s.c.apart):=hcx.cell rfl;have cN:W'.cell? (E Bx 0)=some (Y s.b.name):=hbx.cell rfl;have cZ:W'.cell? (E Bx 1)=some (Y s.b.zone):=hbx.cell rfl;have dA:W'.cell? (E w.heap.size 10)=some (X y.apart):=h1.cell rfl;have dN:W'.cell? (E w.heap.size 15)=some (Y b.name):=h1.cell rfl;have dZ:W'.cell? (E w.heap.size 16)=some (Y b.zone):=h1.cell rfl;have r0:W'.cell? (E (w.heap.size+1) 0)=some (.bool false):=h2.cell rfl;have f0:W'.frozen? (E (w.heap.size+1) 0)=false:=h2.frozen 0;clear h1 h2 h3 h4 hr' hcx hbx;by_cases hmx:y.apart<s.c.apart
  .have hM:mxI y.apart s.c.apart=s.c.apart:=if_pos hmx
   by_cases hm0:s.c.apart=0
   .have HM:=iH hM
    clear hM;have HN:Hid (Lr y b (pre++[s]) false):=Ii h5 (Ka (λk=>k.1 (HM.out.trans hm0)) (λk=>by have:=HM.out.symm.trans k.1;omega));clear HM h5
    gi_wp2
    exact⟨(KeepsOthers.refl W').from _,But.refl _ w6.heap.size W',H1,H2,H3,H4,HN⟩
   by_cases hnm:s.b.name=b.name
   .have tn:=Bm hnm
    have HM:=iH hM;have HNM:=iH hnm;clear hM hnm;have HN:Hid (Lr y b (pre++[s]) true):=Mj (pre:=pre) (Vk (λe=>hm0 (HM.out.symm.trans e)) HNM);clear HM HNM h5
    gi_wp2
    exact⟨(KeepsOthers.setCell _ _ _).from _,rfl,H2.out.set 0 (.bool true),H3.out.setCell (p:=(E (w.heap.size+1) 0)) (by show w.heap.size<=w.heap.size+1;omega) _,by simp[World.setCell];exact H4.out,HN⟩
   have tn:=Bn hnm;by_cases hm2:s.c.apart=2
   .by_cases hz:s.b.zone=b.zone
    .have tz:=Bm hz
     have HM:=iH hM;have HZ:=iH hz;clear hM hz hnm;have HN:Hid (Lr y b (pre++[s]) true):=Mj (pre:=pre) (Ug (HM.out.trans hm2) HZ);clear HM HZ h5
     gi_wp2
     exact⟨(KeepsOthers.setCell _ _ _).from _,rfl,H2.out.set 0 (.bool true),H3.out.setCell (p:=(E (w.heap.size+1) 0)) (by show w.heap.size<=w.heap.size+1;omega) _,by simp[World.setCell];exact H4.out,HN⟩
    have tz:=Bn hz;have HM:=iH hM;have HZ:=iH hz;have HNM:=iH hnm;clear hM hz hnm;have HN:Hid (Lr y b (pre++[s]) false):=Ii h5 (Ka (λk=>HNM.out k.2) (λk=>HZ.out k.2));clear HM HZ HNM h5
    gi_wp2
    exact⟨(KeepsOthers.refl W').from _,But.refl _ w6.heap.size W',H1,H2,H3,H4,HN⟩
   have HM:=iH hM;have HNM:=iH hnm;clear hM hnm;have HN:Hid (Lr y b (pre++[s]) false):=Ii h5 (Ka (λk=>HNM.out k.2) (λk=>hm2 (HM.out.symm.trans k.1)));clear HM HNM h5
   gi_wp2
   exact⟨(KeepsOthers.refl W').from _,But.refl _ w6.heap.size W',H1,H2,H3,H4,HN⟩
  have hM:mxI y.apart s.c.apart=y.apart:=if_neg hmx;by_cases hm0:y.apart=0
  .have HM:=iH hM
   clear hM;have HN:Hid (Lr y b (pre++[s]) false):=Ii h5 (Ka (λk=>k.1 (HM.out.trans hm0)) (λk=>by have:=HM.out.symm.trans k.1;omega));clear HM h5
   gi_wp2
   exact⟨(KeepsOthers.refl W').from _,But.refl _ w6.heap.size W',H1,H2,H3,H4,HN⟩
  by_cases hnm:s.b.name=b.name
  .have tn:=Bm hnm
   have HM:=iH hM;have HNM:=iH hnm;clear hM hnm;have HN:Hid (Lr y b (pre++[s]) true):=Mj (pre:=pre) (Vk (λe=>hm0 (HM.out.symm.trans e)) HNM);clear HM HNM h5
   gi_wp2
   exact⟨(KeepsOthers.setCell _ _ _).from _,rfl,H2.out.set 0 (.bool true),H3.out.setCell (p:=(E (w.heap.size+1) 0)) (by show w.heap.size<=w.heap.size+1;omega) _,by simp[World.setCell];exact H4.out,HN⟩
  have tn:=Bn hnm;by_cases hm2:y.apart=2
  .by_cases hz:s.b.zone=b.zone
   .have tz:=Bm hz
    have HM:=iH hM;have HZ:=iH hz;clear hM hz hnm;have HN:Hid (Lr y b (pre++[s]) true):=Mj (pre:=pre) (Ug (HM.out.trans hm2) HZ);clear HM HZ h5
    gi_wp2
    exact⟨(KeepsOthers.setCell _ _ _).from _,rfl,H2.out.set 0 (.bool true),H3.out.setCell (p:=(E (w.heap.size+1) 0)) (by show w.heap.size<=w.heap.size+1;omega) _,by simp[World.setCell];exact H4.out,HN⟩
   have tz:=Bn hz;have HM:=iH hM;have HZ:=iH hz;have HNM:=iH hnm;clear hM hz hnm;have HN:Hid (Lr y b (pre++[s]) false):=Ii h5 (Ka (λk=>HNM.out k.2) (λk=>HZ.out k.2));clear HM HZ HNM h5
   gi_wp2
   exact⟨(KeepsOthers.refl W').from _,But.refl _ w6.heap.size W',H1,H2,H3,H4,HN⟩
  have HM:=iH hM;have HNM:=iH hnm;clear hM hnm;have HN:Hid (Lr y b (pre++[s]) false):=Ii h5 (Ka (λk=>HNM.out k.2) (λk=>hm2 (HM.out.symm.trans k.1)));clear HM HNM h5
  gi_wp2
  exact⟨(KeepsOthers.refl W').from _,But.refl _ w6.heap.size W',H1,H2,H3,H4,HN⟩
 .rintro D xs W' hD hcame⟨h1,h2,h3,h4,h5⟩hK
  have HT:Hid (Jr x ci y b=false):=(Kr HV ci y b (HAP ci y HY).2 x.copies.length xs hcame).trans h5;have r0:W'.cell? (E (w.heap.size+1) 0)=some (.bool false):=h2.cell rfl;have f0:W'.frozen? (E (w.heap.size+1) 0)=false:=h2.frozen 0;have HR:Hid (Blk (w.heap.size+1) #[.bool false] 4 (W'.setCell (E (w.heap.size+1) 0) (.bool false))):=h2.set 0 (.bool false);have HBL:Hid (bW w (W'.setCell (E (w.heap.size+1) 0) (.bool false))):=h3.setCell (p:=(E (w.heap.size+1) 0)) (by show w.heap.size<=w.heap.size+1;omega) _;have HK:Hid ((W'.setCell (E (w.heap.size+1) 0) (.bool false)).heap[D]?=some (.deferred (some []))):=(Below.heap_setCell W' (E (w.heap.size+1) 0) (.bool false) D (by show D≠w.heap.size+1;omega)).trans hK;clear h1 h2 h3 h4 h5 hcame hK;go_wp2_with fail;generalize W'.setCell (E (w.heap.size+1) 0) (.bool false)=w10 at *;refine⟨by simp,.inl ⟨_,_,rfl,run_takeDeferred HK,?_⟩⟩;have hbp:∀o,Below w.heap.size w10 (w10.putObj D o):=λo=>(Below.refl w.heap.size w10).grown (grownBy_putObj' w10 D _) HBL.out.size (λk e=>by cases e;omega)
  refine⟨_,Du rfl _ _ (w.heap.size+1) false rfl ?_,Ab HT.out.symm,?_,?_⟩
  .exact(World.cell?_of_block (w:=w10) (a:=(E (w.heap.size+1) 0)) (World.putObj_heap_other (by show w.heap.size+1≠D;omega))).trans (HR.out.cell rfl)
  .exact((HF.out.memo.below HBL hm4w).below (hbp _) hm4w).mono (Nat.le_succ _)
  exact But.of_below (HBL.out.trans (hbp _))
 rintro D c pre W' hD⟨k,hk,hcame⟩⟨rfl,h2,h3,h4,h5⟩hK;have HT:Hid (Jr x ci y b=true):=Et _ hk ((Kr HV ci y b (HAP ci y HY).2 k pre hcame).trans h5);have HR:=iH h2;have HBL:=iH h3;have HK:=iH hK;clear h2 h3 h4 h5 hcame hK;refine wpIn_wide.2 ?_;go_wp2_with fail;refine⟨by simp,.inl ⟨_,_,rfl,run_takeDeferred HK,?_⟩⟩;have hbp:∀o,Below w.heap.size W' (W'.putObj D o):=λo=>(Below.refl w.heap.size W').grown (grownBy_putObj' W' D _) HBL.out.size (λk e=>by cases e;omega)
 refine⟨_,Du rfl _ _ (w.heap.size+1) true rfl ?_,Ab HT.out.symm,?_,?_⟩
 .exact(World.cell?_of_block (w:=W') (a:=(E (w.heap.size+1) 0)) (World.putObj_heap_other (by show w.heap.size+1≠D;omega))).trans (HR.out.cell rfl)
 .exact((HF.out.memo.below HBL hm4w).below (hbp _) hm4w).mono (Nat.le_succ _)
 exact But.of_below (HBL.out.trans (hbp _))
end Go.Proofs.YthboopnmbglkjaaGreat
namespace Go.Proofs.YthboopnmbglkjaaGreat
open Go.RowKit Go.WideMaps Go.Maps Tryz
attribute [local go_sem] Oper.semAt_some
def lW(b:Brt)(xs:List StX)(q:Bool):Prop:=(xs.any λs=>decide (s.b.zone=b.zone))=q
def fK(f0:Bool)(xs:List StX):Bool:=f0||!xs.isEmpty
theorem qO(f0:Bool)(pre:List StX)(s:StX):fK f0 (pre++[s])=true:=by cases pre<;>simp[fK]
theorem Kf{x:Flt}(hv:Bb x=true)(ci:Nat)(sv z:BA):∀n xs,Hh x ci sv n xs->Cy (znF x ci sv z) n=xs.any (λs=>decide (s.b.zone=z))/\Cy (stF x ci sv) n=!xs.isEmpty
 |0,xs,h=>by
  have:xs=[]:=h;subst this;exact⟨rfl,rfl⟩
 | n+1,xs,h=>by
  obtain⟨_,hbN,hbr,hcp⟩:=Au hv
  cases hc:x.copies[n]? with
  |none =>
   simp only[Hh,hc]at h;rw[Bu (f:=znF x ci sv z) (by unfold znF;rw[hc]),Bu (f:=stF x ci sv) (by unfold stF;rw[hc])];exact Kf hv ci sv z n xs h
  | some c =>
   simp only[Hh,hc]at h;by_cases hcd:n≠ci/\c.service=sv
   .rw[if_pos hcd]at h
    cases hj:Ar (brN x) c.at_ x.berths.length with
    | none =>
     rw[hj]at h;have hat:c.at_=⟨#[]⟩:=by
      rcases(hcp n c hc).2.2 with e|⟨s,e⟩
      .exact e
      rw[hj]at e;cases e
     rw[Bu (Hm hc (λk=>k.2.2.1 hat)),Bu (eU hc (λk=>k.2.2 hat))];exact Kf hv ci sv z n xs h
    | some j =>
     rw[hj]at h;obtain⟨pre,s,rfl,hsc,hsb,hpre⟩:=h;have ih:=Kf hv ci sv z n pre hpre;obtain⟨b',hb',hbn,hbz⟩:=bY hbN hj;rw[hsb]at hb';cases hb'
     have hat:¬c.at_=⟨#[]⟩:=by
      intro e;rw[e,aP hbr]at hj;cases hj
     rw[Ew (tH hc hcd.1 hcd.2 hat),List.any_append,<-ih.1];refine⟨?_,by cases pre<;>simp⟩;by_cases hz:s.b.zone=z
     .rw[Ew (Uf hc hcd.1 hcd.2 hat (hbz.trans hz))]
      simp[hz]
     rw[Bu (Hm hc (λk=>hz (hbz.symm.trans k.2.2.2)))];simp[hz]
   rw[if_neg hcd]at h;rw[Bu (Hm hc (λk=>hcd ⟨k.1,k.2.1⟩)),Bu (eU hc (λk=>hcd ⟨k.1,k.2.1⟩))];exact Kf hv ci sv z n xs h
theorem xA(W:World)(lo p m1 m2 m3 m4 ci bi:Nat)(x:Flt)(a1:OA)(c1:Nat)(a2:OA)(c2:Nat)(a3:OA)(c3:Nat)(y:Cpy)(a7:OA)(c7:Nat)(b:Brt)(am:OA)(cm:Nat)(u1 u2 u3:Int)(hK:SpotK W lo ci bi x a1 a3 y a7 b am) :
  nE 183 (Ib x ci y b) W p m1 m2 m3 m4 ci bi x a1 c1 a2 c2 a3 c3 y a7 c7 b am cm u1 u2 u3:=by
 intro n w hn hW hF;obtain⟨n1,n3,n7,nm,hv,hy,hb⟩:=hK;obtain⟨_,l3,_,_,_,_⟩:=Bh hv;obtain⟨_,_,hbr,hcp⟩:=Au hv;obtain⟨hbn,hbz,_,_⟩:=hbr bi b hb;have HBN:=iH (Gx hbn);have HAP:=iH (Dw hv).1;have HW:=iH hW;have HF:=iH hF;have N1:=iH n1;have N3:=iH n3;have HV:=iH hv;have HY:=iH hy;have HB:=iH hb;have hpl:p<w.heap.size:=hF.2.1;have hm1w:m1<w.heap.size:=hF.2.2.1.lt;have hm4w:m4<w.heap.size:=hF.memo.lt;have hwW:W.heap.size<=w.heap.size:=hW.size;clear hbn hbz hbr hcp hW hF n1 n3 n7 nm hv hy hb;refine(callsIn_wide (n:=7)).1 ?_;refine callsIn_of_wp_marks func183 rfl trivial ?_ rfl;refine wpIn_wide.2 ?_;simp only[ntmps183,List.size_toArray,List.length_cons,List.length_nil,Nat.reduceAdd,Nat.reduceSub,Array.replicate_succ,Array.replicate_zero,List.push_toArray,List.append_toArray,List.nil_append,List.cons_append];go_upto_region 1 with fail;have e0:Blk w.heap.size (An p ci bi y a7 c7 b am cm u1 u2 u3) 201 ((w.alloc (Obj.cells (An p ci bi y a7 c7 b am cm u1 u2 u3) 201)).alloc (Obj.cells #[.bool false] 4)):=(Blk.alloc w (An p ci bi y a7 c7 b am cm u1 u2 u3) 201).below ((Below.refl _ _).alloc nL _) (Blk.alloc w (An p ci bi y a7 c7 b am cm u1 u2 u3) 201).lt;have e1:Blk (w.heap.size+1) #[.bool false] 4 ((w.alloc (Obj.cells (An p ci bi y a7 c7 b am cm u1 u2 u3) 201)).alloc (Obj.cells #[.bool false] 4)):=by
  have h:=Blk.alloc (w.alloc (Obj.cells (An p ci bi y a7 c7 b am cm u1 u2 u3) 201)) #[.bool false] 4;simpa using h
 have e2:bW w ((w.alloc (Obj.cells (An p ci bi y a7 c7 b am cm u1 u2 u3) 201)).alloc (Obj.cells #[.bool false] 4)):=((Below.refl _ w).alloc nL _).alloc (by simp) _;have HS1:=iH e0;have HZ1:=iH e1;have HB1:=iH e2;clear e0 e1 e2;generalize((w.alloc (Obj.cells (An p ci bi y a7 c7 b am cm u1 u2 u3) 201)).alloc (Obj.cells #[.bool false] 4))=w1 at *;have HF1:=iH (HF.out.below HB1);have hsz1:w.heap.size+1<w1.heap.size:=HZ1.out.lt;have s11:w1.cell? (E w.heap.size 11)=some (Y y.near):=HS1.out.cell rfl;have s3:w1.cell? (E w.heap.size 3)=some (Y y.service):=HS1.out.cell rfl;by_cases hne:y.near=⟨#[]⟩
 .have t1:=Cz hne
  have t2:=Vu hne;have HT:=iH (mC (x:=x) (ci:=ci) (b:=b) hne);have r0:w1.cell? (E (w.heap.size+1) 0)=some (.bool false):=HZ1.out.cell rfl;have f0:w1.frozen? (E (w.heap.size+1) 0)=false:=HZ1.out.frozen 0;have HR:Hid (Blk (w.heap.size+1) #[.bool false] 4 (w1.setCell (E (w.heap.size+1) 0) (.bool false))):=HZ1.out.set 0 (.bool false);have HBL:Hid (bW w (w1.setCell (E (w.heap.size+1) 0) (.bool false))):=HB1.out.setCell (p:=(E (w.heap.size+1) 0)) (by show w.heap.size<=w.heap.size+1;omega) _;clear hne;go_wp2_with fail;exact⟨_,Du rfl _ _ (w.heap.size+1) false rfl (HR.out.cell rfl),Ab HT.out.symm,(HF.out.memo.below HBL hm4w).mono (Nat.le_succ _),But.of_below HBL⟩
 have t1:=Bt hne;have t2:=Mu hne;have HNE:=iH hne;clear hne;obtain⟨f0,hf0⟩:∃f0,(y.near.toList==y.service.toList)=!f0:=⟨!(y.near.toList==y.service.toList),by simp⟩;have HF0:Hid (f0=decide (¬y.near=y.service)):=by
  by_cases e:y.near=y.service
  .rw[Bm e]at hf0
   show f0=_
   rw[decide_eq_false (λk=>k e)];simpa using hf0.symm
  rw[Bn e]at hf0;show f0=_
  rw[decide_eq_true e];simpa using hf0.symm
 go_upto_region 4 with fail;have hb2:=(Below.refl _ w1).alloc nL (Obj.cells #[.bool f0] 4);have HS2:=qBk HS1 hb2;have HZ2:=qBk HZ1 hb2;have HF2:=iH (HF1.out.below hb2);have HB2:=qTH HB1 hb2;have HK2:=iH (Blk.alloc w1 #[.bool f0] 4);obtain⟨k3,hk3⟩:∃k,k=w1.heap.size:=⟨_,rfl⟩;have hk3w:w.heap.size+1<k3:=by omega
 have hk32:k3<(w1.alloc (Obj.cells #[.bool f0] 4)).heap.size:=by rw[hk3];exact HK2.out.lt
 generalize w1.alloc (Obj.cells #[.bool f0] 4)=w2 at *;rw[<-hk3]at HK2⊢;clear HS1 HZ1 HF1 HB1 s11 s3 hb2 hk3 hsz1 hf0 t1 t2;clear w1;have s3:w2.cell? (E w.heap.size 11)=some (Y y.near):=HS2.out.cell rfl;go_wp2_with(first|(refine wpList_load_mid rfl 201 _ rfl w.heap.size 0 (by first|rfl|(simp[go_sem];done)) (An p ci bi y a7 c7 b am cm u1 u2 u3).toList _ HS2.out.rangeA underlying201 rfl Es ?_));refine(Lc (An p ci bi y a7 c7 b am cm u1 u2 u3) y.near _).mono ?_;rintro e w6⟨rfl,hw6⟩;have hb6:bW w2 w6:=by rw[hw6];exact((Below.refl _ w2).alloc nL _).alloc (by simp) _
 have HX6:Hid (Blk w2.heap.size (An p ci bi y a7 c7 b am cm u1 u2 u3) 201 w6):=by
  rw[hw6];exact(Blk.alloc w2 _ _).below ((Below.refl _ _).alloc nL _) (Blk.alloc w2 _ _).lt
 have HV6:Hid (Blk (w2.heap.size+1) #[Y y.near] 9 w6):=by
  rw[hw6];have h:=Blk.alloc (w2.alloc (Obj.cells (An p ci bi y a7 c7 b am cm u1 u2 u3) 201)) #[Y y.near] 9;show Blk _ _ _ _
  simpa using h
 have hF6:=HF2.out.below hb6;have HIT:Hid (ItIn p m1 w2.heap.size (w2.heap.size+1) ci x a1 c1 a3 c3 y.near w6):=⟨HX6.out.cell rfl,HX6.out.cell rfl,HV6.out.cell rfl,hF6.1 1 _ rfl,hF6.1 3 _ rfl,hF6.1 4 _ rfl,hF6.2.2.1⟩;have HS6:Hid (Blk w.heap.size (An p ci bi y a7 c7 b am cm u1 u2 u3) 201 w6):=HS2.out.below hb6 HS2.out.lt;have HZ6:Hid (Blk (w.heap.size+1) #[.bool false] 4 w6):=HZ2.out.below hb6 HZ2.out.lt;have HQ6:=qTH HB2 hb6;have HW6:=iH (HW.out.trans (HQ6.out.mono HW.out.size));have hs6:w2.heap.size+1<w6.heap.size:=HV6.out.lt;have HK6:=qBk HK2 hb6;clear hw6 hb6 hF6 HX6 HV6 s3 HS2 HZ2 HF2;go_wp2_with fail
 refine wpIn_wide.1 (wpIn_rangeFunc_ownH (F:=Fence.wide) (n:=6) rfl (by omega) (gf:=188) (lb:=#[pP w2.heap.size 0,pP (w2.heap.size+1) 0]) rfl trivial (enters_of func188 (by kernel_rfl) rfl)
  (Hz p m1 w2.heap.size (w2.heap.size+1) ci k3 w6.heap.size x a1 c1 a3 c3 y.near lo W w6 HW6 N1 N3 HIT l3 HW6.out.size (by omega) nL ⟨by omega,by omega⟩ ⟨by omega,by omega⟩ ⟨by omega,by omega⟩ ⟨by omega,by omega⟩)
  (λh1 h2=>h1.trans h2) (λW' l' o o' hl _ _ _=>⟨rfl,rfl,rfl,(grownBy_putObj' W' l' o').size,λk hk _=>World.putObj_heap_other (by omega)⟩) (Below.refl _ _) (λ_=>rfl)
  (λpre W'=>Blk w.heap.size (An p ci bi y a7 c7 b am cm u1 u2 u3) 201 W'/\Blk (w.heap.size+1) #[.bool false] 4 W'/\Blk k3 #[.bool (fK f0 pre)] 4 W'/\bW w W'/\w6.heap.size<=W'.heap.size/\lW b pre false)
  (λc pre W'=>c=Code.ret/\Blk (w.heap.size+1) #[.bool false] 4 W'/\bW w W'/\w6.heap.size<=W'.heap.size/\lW b pre true) ?_ ?_ ?_
  (λs a' W'=>∃Bx,w6.heap.size<=Bx/\Blk Bx #[Y s.b.name,Y s.b.zone,.slice s.am s.b.marks.length s.cm,X s.b.room,X s.b.hold,.bool s.b.closed] 92 W'/\a'={tmps:=#[.agg (An p ci bi y a7 c7 b am cm u1 u2 u3),pP w.heap.size 0,pP (w.heap.size+1) 0,pP k3 0,undef,pP Bx 0,pP w.heap.size 2,pP w.heap.size 11,Y y.near,.bool false,pP w.heap.size 2,pP w.heap.size 11,Y y.near,pP w.heap.size 2,pP w.heap.size 3,Y y.service,.bool f0,.agg (An p ci bi y a7 c7 b am cm u1 u2 u3),pP w.heap.size 2,pP w.heap.size 11,Y y.near,.func (.func 188) #[] #[pP w2.heap.size 0,pP (w2.heap.size+1) 0],(Sl s)[0],(Sl s)[1],undef,undef,undef,undef,undef,undef,undef],defers:=[]}) ?_ ?_ ?_ ?_ ?_)
 .rintro s A B row⟨h1,h2,hk,h3,h4,h5⟩hgr hr
  have hne:∀k,k<w6.heap.size->some k≠row:=λk hk e=>by have:=(hr _ e.symm).1;omega
  exact⟨h1.grown hgr (hne _ (by omega)),h2.grown hgr (hne _ (by omega)),hk.grown hgr (hne _ (by omega)),h3.grown hgr h3.size (λk e=>lT HQ6.out.size (hr k e).1),lT h4 hgr.size,h5⟩
 .rintro c s A B row⟨h0,h2,h3,h4,h5⟩hgr hr
  have hne:∀k,k<w6.heap.size->some k≠row:=λk hk e=>by have:=(hr _ e.symm).1;omega
  exact⟨h0,h2.grown hgr (hne _ (by omega)),h3.grown hgr h3.size (λk e=>lT HQ6.out.size (hr k e).1),lT h4 hgr.size,h5⟩
 .exact⟨HS6,HZ6,by simpa[fK]using HK6.out,HQ6,Nat.le_refl _,rfl⟩
 .rintro s a' _ A B row⟨Bx,h1,h4,h5⟩hgr hr
  refine⟨Bx,h1,h4.grown hgr (λe=>?_),h5⟩;obtain⟨_,o,ho,hc⟩:=hr _ e.symm;rw[show A.heap[Bx]?=_ from h4]at ho;cases ho
  cases hc
 .rintro l' pre s W' K⟨h1,h2,hk,h3,h4,h5⟩hK
  have hKK:=iH hK;clear hK
  gi_wp2
  have hb1:bW W' (W'.alloc (Obj.cells #[Y s.b.name,Y s.b.zone,.slice s.am s.b.marks.length s.cm,X s.b.room,X s.b.hold,.bool s.b.closed] 92)):=(Below.refl _ W').alloc nL _;exact hKK.out _ _ ((KeepsOthers.alloc _ _).from _) (But.of_below (hb1.mono h4)) ⟨h1.below hb1 h1.lt,h2.below hb1 h2.lt,hk.below hb1 hk.lt,qTr h3 hb1,lT h4 hb1.size,h5⟩ ⟨W'.heap.size,h4,Blk.alloc _ _ _,rfl⟩
 .rintro l' pre s a' W' hl' ⟨r',hr'⟩⟨h1,h2,hk,h3,h4,h5⟩⟨Bx,hBx,hbx,rfl⟩hlt'
  have H1:=iH h1;have H2:=iH h2;have HK:=iH hk;have H3:=iH h3;have H4:=iH h4;have cZ:W'.cell? (E Bx 1)=some (Y s.b.zone):=hbx.cell rfl;have dZ:W'.cell? (E w.heap.size 16)=some (Y b.zone):=h1.cell rfl;have r0:W'.cell? (E (w.heap.size+1) 0)=some (.bool false):=h2.cell rfl;have fr0:W'.frozen? (E (w.heap.size+1) 0)=false:=h2.frozen 0;have r3:W'.cell? (E k3 0)=some (.bool (fK f0 pre)):=hk.cell rfl;have fr3:W'.frozen? (E k3 0)=false:=hk.frozen 0;clear h1 h2 hk h3 h4 hr' hbx;by_cases hz:s.b.zone=b.zone
  .have tz:=Bm hz
   have HN:Hid (lW b (pre++[s]) true):=Mj (pre:=pre) (decide_eq_true hz);clear hz h5
   gi_wp2
   exact⟨(KeepsOthers.setCell _ _ _).from _,rfl,H2.out.set 0 (.bool false),H3.out.setCell (p:=(E (w.heap.size+1) 0)) (by show w.heap.size<=w.heap.size+1;omega) _,by simp[World.setCell];exact H4.out,HN⟩
  have tz:=Bn hz;have HN:Hid (lW b (pre++[s]) false):=Ii h5 (decide_eq_false hz);clear hz h5
  gi_wp2
  refine⟨(KeepsOthers.setCell _ _ _).from _,(But.refl k3 w6.heap.size W').set 0 _,H1.out.other (a:=(E k3 0)) (by show w.heap.size≠k3;omega) _,H2.out.other (a:=(E k3 0)) (by show w.heap.size+1≠k3;omega) _,?_,H3.out.setCell (p:=(E k3 0)) (by show w.heap.size<=k3;omega) _,by simp[World.setCell];exact H4.out,HN⟩;rw[qO];exact HK.out.set 0 (.bool true)
 .rintro D xs W' hD hcame⟨h1,h2,hk,h3,h4,h5⟩hK
  obtain⟨q1,q2⟩:=Kf HV ci y.near b.zone x.copies.length xs hcame;have HT:Hid (Ib x ci y b=fK f0 xs):=jB HNE (q1.trans h5) q2 HF0;have r0:W'.cell? (E (w.heap.size+1) 0)=some (.bool false):=h2.cell rfl;have fr0:W'.frozen? (E (w.heap.size+1) 0)=false:=h2.frozen 0;have r3:W'.cell? (E k3 0)=some (.bool (fK f0 xs)):=hk.cell rfl;obtain⟨q,hq⟩:∃q,fK f0 xs=q:=⟨_,rfl⟩;rw[hq]at r3 HT;have HR:Hid (Blk (w.heap.size+1) #[.bool q] 4 (W'.setCell (E (w.heap.size+1) 0) (.bool q))):=h2.set 0 (.bool q);have HBL:Hid (bW w (W'.setCell (E (w.heap.size+1) 0) (.bool q))):=h3.setCell (p:=(E (w.heap.size+1) 0)) (by show w.heap.size<=w.heap.size+1;omega) _;have HK:Hid ((W'.setCell (E (w.heap.size+1) 0) (.bool q)).heap[D]?=some (.deferred (some []))):=(Below.heap_setCell W' (E (w.heap.size+1) 0) (.bool q) D (by show D≠w.heap.size+1;omega)).trans hK;clear h1 h2 hk h3 h4 h5 hcame hK q1 q2 hq;go_wp2_with fail;generalize W'.setCell (E (w.heap.size+1) 0) (.bool q)=w10 at *;refine⟨by simp,.inl ⟨_,_,rfl,run_takeDeferred HK,?_⟩⟩;have hbp:∀o,Below w.heap.size w10 (w10.putObj D o):=λo=>(Below.refl w.heap.size w10).grown (grownBy_putObj' w10 D _) HBL.out.size (λk e=>by cases e;omega)
  refine⟨_,Du rfl _ _ (w.heap.size+1) q rfl ?_,Ab HT.out.symm,?_,?_⟩
  .exact(World.cell?_of_block (w:=w10) (a:=(E (w.heap.size+1) 0)) (World.putObj_heap_other (by show w.heap.size+1≠D;omega))).trans (HR.out.cell rfl)
  .exact((HF.out.memo.below HBL hm4w).below (hbp _) hm4w).mono (Nat.le_succ _)
  exact But.of_below (HBL.out.trans (hbp _))
 rintro D c pre W' hD⟨k,hk,hcame⟩⟨rfl,h2,h3,h4,h5⟩hK;have HT:Hid (Ib x ci y b=false):=nC (Et _ hk ((Kf HV ci y.near b.zone k pre hcame).1.trans h5));have HR:=iH h2;have HBL:=iH h3;have HK:=iH hK;clear h2 h3 h4 h5 hcame hK;refine wpIn_wide.2 ?_;go_wp2_with fail;refine⟨by simp,.inl ⟨_,_,rfl,run_takeDeferred HK,?_⟩⟩;have hbp:∀o,Below w.heap.size W' (W'.putObj D o):=λo=>(Below.refl w.heap.size W').grown (grownBy_putObj' W' D _) HBL.out.size (λk e=>by cases e;omega)
 refine⟨_,Du rfl _ _ (w.heap.size+1) false rfl ?_,Ab HT.out.symm,?_,?_⟩
 .exact(World.cell?_of_block (w:=W') (a:=(E (w.heap.size+1) 0)) (World.putObj_heap_other (by show w.heap.size+1≠D;omega))).trans (HR.out.cell rfl)
 .exact((HF.out.memo.below HBL hm4w).below (hbp _) hm4w).mono (Nat.le_succ _)
 exact But.of_below (HBL.out.trans (hbp _))
end Go.Proofs.YthboopnmbglkjaaGreat
