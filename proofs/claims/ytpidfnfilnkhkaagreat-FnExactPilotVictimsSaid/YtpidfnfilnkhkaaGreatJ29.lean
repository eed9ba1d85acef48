import Derived.Test.YtpidfnfilnkhkaaGreatJ28
import Derived.Shelf.Spec.SlicesInsert
import Derived.Lib.AppendZerosOnto
import Derived.Laws.NewBlocks
import Derived.Deep.RegionLaw
set_option maxHeartbeats 4000000
set_option maxRecDepth 100000
namespace Go.Proofs.YtpidfnfilnkhkaaGreat
open Go.RowKit Go.WideMaps Go.Maps Tryz
attribute [local go_sem] Oper.semAt_some
def lZ(b:Brt)(xs:List StX)(q:Bool):Prop:=(xs.any λs=>decide (s.b.zone=b.zone))=q
def fT(f0:Bool)(xs:List StX):Bool:=f0||!xs.isEmpty
theorem qA(f0:Bool)(pre:List StX)(s:StX):fT f0 (pre++[s])=true:=by cases pre<;>simp[fT]
theorem Ka{x:Flt}(hv:Au x=true)(ci:Nat)(sv z:BA):∀n xs,Iw x ci sv n xs->Cd (znF x ci sv z) n=xs.any (λs=>decide (s.b.zone=z))/\Cd (stF x ci sv) n=!xs.isEmpty
 |0,xs,h=>by
  have:xs=[]:=h;subst this;exact⟨rfl,rfl⟩
 | n+1,xs,h=>by
  obtain⟨_,hbN,hbr,hcp⟩:=Bb hv
  cases hc:x.copies[n]? with
  |none =>
   simp only[Iw,hc]at h;rw[Bg (f:=znF x ci sv z) (by unfold znF;rw[hc]),Bg (f:=stF x ci sv) (by unfold stF;rw[hc])];exact Ka hv ci sv z n xs h
  | some c =>
   simp only[Iw,hc]at h;by_cases hcd:n≠ci/\c.service=sv
   .rw[if_pos hcd]at h
    cases hj:Al (brN x) c.at_ x.berths.length with
    | none =>
     rw[hj]at h;have hat:c.at_=⟨#[]⟩:=by
      rcases(hcp n c hc).2.2 with e|⟨s,e⟩
      .exact e
      .rw[hj]at e;cases e
     rw[Bg (Th hc (λk=>k.2.2.1 hat)),Bg (eH hc (λk=>k.2.2 hat))];exact Ka hv ci sv z n xs h
    | some j =>
     rw[hj]at h;obtain⟨pre,s,rfl,hsc,hsb,hpre⟩:=h;have ih:=Ka hv ci sv z n pre hpre;obtain⟨b',hb',hbn,hbz⟩:=aO hbN hj;rw[hsb]at hb';cases hb'
     have hat:¬c.at_=⟨#[]⟩:=by
      intro e;rw[e,kT hbr]at hj;cases hj
     rw[Fb (sR hc hcd.1 hcd.2 hat),List.any_append,<-ih.1];refine⟨?_,by cases pre<;>simp⟩;by_cases hz:s.b.zone=z
     .rw[Fb (iZ hc hcd.1 hcd.2 hat (hbz.trans hz))]
      simp[hz]
     .rw[Bg (Th hc (λk=>hz (hbz.symm.trans k.2.2.2)))]
      simp[hz]
   .rw[if_neg hcd]at h
    rw[Bg (Th hc (λk=>hcd ⟨k.1,k.2.1⟩)),Bg (eH hc (λk=>hcd ⟨k.1,k.2.1⟩))];exact Ka hv ci sv z n xs h
theorem lF(W:World)(lo p m1 m2 m3 m4 ci bi:Nat)(x:Flt)(a1:OA)(c1:Nat)(a2:OA)(c2:Nat)(a3:OA)(c3:Nat)(y:Cpy)(a7:OA)(c7:Nat)(b:Brt)(am:OA)(cm:Nat)(u1 u2 u3:Int)(hK:SpotK W lo ci bi x a1 a3 y a7 b am) :
  mU 140 (Fq x ci y b) W p m1 m2 m3 m4 ci bi x a1 c1 a2 c2 a3 c3 y a7 c7 b am cm u1 u2 u3:=by
 intro w hW hF;obtain⟨n1,n3,n7,nm,hv,hy,hb⟩:=hK;obtain⟨_,l3,_,_,_,_⟩:=Aw hv;obtain⟨_,_,hbr,hcp⟩:=Bb hv;obtain⟨hbn,hbz,_,_⟩:=hbr bi b hb;have HBN:=iH (Iy hbn);have HAP:=iH (De hv).1;have HW:=iH hW;have HF:=iH hF;have N1:=iH n1;have N3:=iH n3;have HV:=iH hv;have HY:=iH hy;have HB:=iH hb;have hpl:p<w.heap.size:=hF.2.1;have hm1w:m1<w.heap.size:=hF.2.2.1.lt;have hm4w:m4<w.heap.size:=hF.memo.lt;have hwW:W.heap.size<=w.heap.size:=hW.size;clear hbn hbz hbr hcp hW hF n1 n3 n7 nm hv hy hb;refine(callsIn_wide (n:=7)).1 ?_;refine callsIn_of_wp_marks func140 rfl trivial ?_ rfl;refine wpIn_wide.2 ?_;simp only[ntmps140,List.size_toArray,List.length_cons,List.length_nil,Nat.reduceAdd,Nat.reduceSub,Array.replicate_succ,Array.replicate_zero,List.push_toArray,List.append_toArray,List.nil_append,List.cons_append];go_upto_region 1 with fail;have e0:Blk w.heap.size (Ai p ci bi y a7 c7 b am cm u1 u2 u3) 60 ((w.alloc (Obj.cells (Ai p ci bi y a7 c7 b am cm u1 u2 u3) 60)).alloc (Obj.cells #[.bool false] 4)):=(Blk.alloc w (Ai p ci bi y a7 c7 b am cm u1 u2 u3) 60).below ((Below.refl _ _).alloc nL _) (Blk.alloc w (Ai p ci bi y a7 c7 b am cm u1 u2 u3) 60).lt;have e1:Blk (w.heap.size+1) #[.bool false] 4 ((w.alloc (Obj.cells (Ai p ci bi y a7 c7 b am cm u1 u2 u3) 60)).alloc (Obj.cells #[.bool false] 4)):=by
  have h:=Blk.alloc (w.alloc (Obj.cells (Ai p ci bi y a7 c7 b am cm u1 u2 u3) 60)) #[.bool false] 4;simpa using h
 have e2:Below w.heap.size w ((w.alloc (Obj.cells (Ai p ci bi y a7 c7 b am cm u1 u2 u3) 60)).alloc (Obj.cells #[.bool false] 4)):=((Below.refl _ w).alloc nL _).alloc (by simp) _;have HS1:=iH e0;have HZ1:=iH e1;have HB1:=iH e2;clear e0 e1 e2;generalize((w.alloc (Obj.cells (Ai p ci bi y a7 c7 b am cm u1 u2 u3) 60)).alloc (Obj.cells #[.bool false] 4))=w1 at *;have HF1:=iH (HF.out.below HB1);have hsz1:w.heap.size+1<w1.heap.size:=HZ1.out.lt;have s11:w1.cell? ⟨w.heap.size,11,none⟩=some (.string y.near):=HS1.out.cell rfl;have s3:w1.cell? ⟨w.heap.size,3,none⟩=some (.string y.service):=HS1.out.cell rfl;by_cases hne:y.near=⟨#[]⟩
 .have t1:=Bj hne
  have t2:=Va hne;have HT:=iH (kZ (x:=x) (ci:=ci) (b:=b) hne);have r0:w1.cell? ⟨w.heap.size+1,0,none⟩=some (.bool false):=HZ1.out.cell rfl;have f0:w1.frozen? ⟨w.heap.size+1,0,none⟩=false:=HZ1.out.frozen 0;have HR:Hid (Blk (w.heap.size+1) #[.bool false] 4 (w1.setCell ⟨w.heap.size+1,0,none⟩ (.bool false))):=HZ1.out.set 0 (.bool false);have HBL:Hid (Below w.heap.size w (w1.setCell ⟨w.heap.size+1,0,none⟩ (.bool false))):=HB1.out.setCell (p:=⟨w.heap.size+1,0,none⟩) (by show w.heap.size<=w.heap.size+1;omega) _;clear hne;go_wp2_with fail;exact⟨_,Dt rfl _ _ (w.heap.size+1) false rfl (HR.out.cell rfl),Ab HT.out.symm,(HF.out.memo.below HBL hm4w),But.of_below HBL⟩
 have t1:=Ay hne;have t2:=Se hne;have HNE:=iH hne;clear hne;obtain⟨f0,hf0⟩:∃f0,(y.near.toList==y.service.toList)=!f0:=⟨!(y.near.toList==y.service.toList),by simp⟩;have HF0:Hid (f0=decide (¬y.near=y.service)):=by
  by_cases e:y.near=y.service
  .rw[Br e]at hf0
   show f0=_
   rw[decide_eq_false (λk=>k e)];simpa using hf0.symm
  .rw[Bu e]at hf0
   show f0=_
   rw[decide_eq_true e];simpa using hf0.symm
 go_upto_region 4 with fail;have hb2:=(Below.refl _ w1).alloc nL (Obj.cells #[.bool f0] 4);have HS2:=qBk HS1 hb2;have HZ2:=qBk HZ1 hb2;have HF2:=iH (HF1.out.below hb2);have HB2:=qTH HB1 hb2;have HK2:=iH (Blk.alloc w1 #[.bool f0] 4);obtain⟨k3,hk3⟩:∃k,k=w1.heap.size:=⟨_,rfl⟩;have hk3w:w.heap.size+1<k3:=by omega
 have hk32:k3<(w1.alloc (Obj.cells #[.bool f0] 4)).heap.size:=by rw[hk3];exact HK2.out.lt
 generalize w1.alloc (Obj.cells #[.bool f0] 4)=w2 at *;rw[<-hk3]at HK2⊢;clear HS1 HZ1 HF1 HB1 s11 s3 hb2 hk3 hsz1 hf0 t1 t2;clear w1;have s3:w2.cell? ⟨w.heap.size,11,none⟩=some (.string y.near):=HS2.out.cell rfl;go_wp2_with(first|(refine wpList_load_mid rfl 60 _ rfl w.heap.size 0 (by first|rfl|(simp[go_sem];done)) (Ai p ci bi y a7 c7 b am cm u1 u2 u3).toList _ HS2.out.rangeA underlying60 rfl Bk ?_));refine(Pn (Ai p ci bi y a7 c7 b am cm u1 u2 u3) y.near _).mono ?_;rintro e w6⟨rfl,hw6⟩;have hb6:Below w2.heap.size w2 w6:=by rw[hw6];exact((Below.refl _ w2).alloc nL _).alloc (by simp) _
 have HX6:Hid (Blk w2.heap.size (Ai p ci bi y a7 c7 b am cm u1 u2 u3) 60 w6):=by
  rw[hw6];exact(Blk.alloc w2 _ _).below ((Below.refl _ _).alloc nL _) (Blk.alloc w2 _ _).lt
 have HV6:Hid (Blk (w2.heap.size+1) #[.string y.near] 9 w6):=by
  rw[hw6];have h:=Blk.alloc (w2.alloc (Obj.cells (Ai p ci bi y a7 c7 b am cm u1 u2 u3) 60)) #[.string y.near] 9;show Blk _ _ _ _
  simpa using h
 have hF6:=HF2.out.below hb6;have HIT:Hid (ItIn p m1 w2.heap.size (w2.heap.size+1) ci x a1 c1 a3 c3 y.near w6):=⟨HX6.out.cell rfl,HX6.out.cell rfl,HV6.out.cell rfl,hF6.1 1 _ rfl,hF6.1 3 _ rfl,hF6.1 4 _ rfl,hF6.2.2.1⟩;have HS6:Hid (Blk w.heap.size (Ai p ci bi y a7 c7 b am cm u1 u2 u3) 60 w6):=HS2.out.below hb6 HS2.out.lt;have HZ6:Hid (Blk (w.heap.size+1) #[.bool false] 4 w6):=HZ2.out.below hb6 HZ2.out.lt;have HQ6:=qTH HB2 hb6;have HW6:=iH (HW.out.trans (HQ6.out.mono HW.out.size));have hs6:w2.heap.size+1<w6.heap.size:=HV6.out.lt;have HK6:=qBk HK2 hb6;clear hw6 hb6 hF6 HX6 HV6 s3 HS2 HZ2 HF2;go_wp2_with fail
 refine wpIn_wide.1 (wpIn_rangeFunc_ownH (F:=Fence.wide) (n:=6) rfl (by omega) (gf:=188) (lb:=#[.pointer (some ⟨w2.heap.size,0,none⟩),.pointer (some ⟨w2.heap.size+1,0,none⟩)]) rfl trivial (enters_of func188 (by kernel_rfl) rfl)
  (Mc p m1 w2.heap.size (w2.heap.size+1) ci k3 w6.heap.size x a1 c1 a3 c3 y.near lo W w6 HW6 N1 N3 HIT l3 HW6.out.size (by omega) nL ⟨by omega,by omega⟩ ⟨by omega,by omega⟩ ⟨by omega,by omega⟩ ⟨by omega,by omega⟩)
  (λh1 h2=>h1.trans h2) (λW' l' o o' hl _ _ _=>⟨rfl,rfl,rfl,(grownBy_putObj' W' l' o').size,λk hk _=>World.putObj_heap_other (by omega)⟩) (Below.refl _ _) (λ_=>rfl)
  (λpre W'=>Blk w.heap.size (Ai p ci bi y a7 c7 b am cm u1 u2 u3) 60 W'/\Blk (w.heap.size+1) #[.bool false] 4 W'/\Blk k3 #[.bool (fT f0 pre)] 4 W'/\Below w.heap.size w W'/\w6.heap.size<=W'.heap.size/\lZ b pre false)
  (λc pre W'=>c=Code.ret/\Blk (w.heap.size+1) #[.bool false] 4 W'/\Below w.heap.size w W'/\w6.heap.size<=W'.heap.size/\lZ b pre true) ?_ ?_ ?_
  (λs a' W'=>∃Bx,w6.heap.size<=Bx/\Blk Bx #[.string s.b.name,.string s.b.zone,.slice s.am s.b.marks.length s.cm,.int .i64 s.b.room,.int .i64 s.b.hold,.bool s.b.closed] 52 W'/\a'={tmps:=#[.agg (Ai p ci bi y a7 c7 b am cm u1 u2 u3),.pointer (some ⟨w.heap.size,0,none⟩),.pointer (some ⟨w.heap.size+1,0,none⟩),.pointer (some ⟨k3,0,none⟩),undef,.pointer (some ⟨Bx,0,none⟩),.pointer (some ⟨w.heap.size,2,none⟩),.pointer (some ⟨w.heap.size,11,none⟩),.string y.near,.bool false,.pointer (some ⟨w.heap.size,2,none⟩),.pointer (some ⟨w.heap.size,11,none⟩),.string y.near,.pointer (some ⟨w.heap.size,2,none⟩),.pointer (some ⟨w.heap.size,3,none⟩),.string y.service,.bool f0,.agg (Ai p ci bi y a7 c7 b am cm u1 u2 u3),.pointer (some ⟨w.heap.size,2,none⟩),.pointer (some ⟨w.heap.size,11,none⟩),.string y.near,.func (.func 188) #[] #[.pointer (some ⟨w2.heap.size,0,none⟩),.pointer (some ⟨w2.heap.size+1,0,none⟩)],(Xw s)[0],(Xw s)[1],undef,undef,undef,undef,undef,undef,undef],defers:=[]}) ?_ ?_ ?_ ?_ ?_)
 .rintro s A B row⟨h1,h2,hk,h3,h4,h5⟩hgr hr
  have hne:∀k,k<w6.heap.size->some k≠row:=λk hk e=>by have:=(hr _ e.symm).1;omega
  exact⟨h1.grown hgr (hne _ (by omega)),h2.grown hgr (hne _ (by omega)),hk.grown hgr (hne _ (by omega)),h3.grown hgr h3.size (λk e=>lT HQ6.out.size (hr k e).1),lT h4 hgr.size,h5⟩
 .rintro c s A B row⟨h0,h2,h3,h4,h5⟩hgr hr
  have hne:∀k,k<w6.heap.size->some k≠row:=λk hk e=>by have:=(hr _ e.symm).1;omega
  exact⟨h0,h2.grown hgr (hne _ (by omega)),h3.grown hgr h3.size (λk e=>lT HQ6.out.size (hr k e).1),lT h4 hgr.size,h5⟩
 .exact⟨HS6,HZ6,by simpa[fT]using HK6.out,HQ6,Nat.le_refl _,rfl⟩
 .rintro s a' _ A B row⟨Bx,h1,h4,h5⟩hgr hr
  refine⟨Bx,h1,h4.grown hgr (λe=>?_),h5⟩;obtain⟨_,o,ho,hc⟩:=hr _ e.symm;rw[show A.heap[Bx]?=_ from h4]at ho;cases ho
  cases hc
 .rintro l' pre s W' K⟨h1,h2,hk,h3,h4,h5⟩hK
  have hKK:=iH hK;clear hK
  gi_wp2
  have hb1:Below W'.heap.size W' (W'.alloc (Obj.cells #[.string s.b.name,.string s.b.zone,.slice s.am s.b.marks.length s.cm,.int .i64 s.b.room,.int .i64 s.b.hold,.bool s.b.closed] 52)):=(Below.refl _ W').alloc nL _;exact hKK.out _ _ ((KeepsOthers.alloc _ _).from _) (But.of_below (hb1.mono h4)) ⟨h1.below hb1 h1.lt,h2.below hb1 h2.lt,hk.below hb1 hk.lt,qTr h3 hb1,lT h4 hb1.size,h5⟩ ⟨W'.heap.size,h4,Blk.alloc _ _ _,rfl⟩
 .rintro l' pre s a' W' hl' ⟨r',hr'⟩⟨h1,h2,hk,h3,h4,h5⟩⟨Bx,hBx,hbx,rfl⟩hlt'
  have H1:=iH h1;have H2:=iH h2;have HK:=iH hk;have H3:=iH h3;have H4:=iH h4;have cZ:W'.cell? ⟨Bx,1,none⟩=some (.string s.b.zone):=hbx.cell rfl;have dZ:W'.cell? ⟨w.heap.size,16,none⟩=some (.string b.zone):=h1.cell rfl;have r0:W'.cell? ⟨w.heap.size+1,0,none⟩=some (.bool false):=h2.cell rfl;have fr0:W'.frozen? ⟨w.heap.size+1,0,none⟩=false:=h2.frozen 0;have r3:W'.cell? ⟨k3,0,none⟩=some (.bool (fT f0 pre)):=hk.cell rfl;have fr3:W'.frozen? ⟨k3,0,none⟩=false:=hk.frozen 0;clear h1 h2 hk h3 h4 hr' hbx;by_cases hz:s.b.zone=b.zone
  .have tz:=Br hz
   have HN:Hid (lZ b (pre++[s]) true):=Lz (pre:=pre) (decide_eq_true hz);clear hz h5
   gi_wp2
   exact⟨(KeepsOthers.setCell _ _ _).from _,rfl,H2.out.set 0 (.bool false),H3.out.setCell (p:=⟨w.heap.size+1,0,none⟩) (by show w.heap.size<=w.heap.size+1;omega) _,by simp[World.setCell];exact H4.out,HN⟩
  .have tz:=Bu hz
   have HN:Hid (lZ b (pre++[s]) false):=Iq h5 (decide_eq_false hz);clear hz h5
   gi_wp2
   refine⟨(KeepsOthers.setCell _ _ _).from _,(But.refl k3 w6.heap.size W').set 0 _,H1.out.other (a:=⟨k3,0,none⟩) (by show w.heap.size≠k3;omega) _,H2.out.other (a:=⟨k3,0,none⟩) (by show w.heap.size+1≠k3;omega) _,?_,H3.out.setCell (p:=⟨k3,0,none⟩) (by show w.heap.size<=k3;omega) _,by simp[World.setCell];exact H4.out,HN⟩;rw[qA];exact HK.out.set 0 (.bool true)
 .rintro D xs W' hD hcame⟨h1,h2,hk,h3,h4,h5⟩hK
  obtain⟨q1,q2⟩:=Ka HV ci y.near b.zone x.copies.length xs hcame;have HT:Hid (Fq x ci y b=fT f0 xs):=kE HNE (q1.trans h5) q2 HF0;have r0:W'.cell? ⟨w.heap.size+1,0,none⟩=some (.bool false):=h2.cell rfl;have fr0:W'.frozen? ⟨w.heap.size+1,0,none⟩=false:=h2.frozen 0;have r3:W'.cell? ⟨k3,0,none⟩=some (.bool (fT f0 xs)):=hk.cell rfl;obtain⟨q,hq⟩:∃q,fT f0 xs=q:=⟨_,rfl⟩;rw[hq]at r3 HT;have HR:Hid (Blk (w.heap.size+1) #[.bool q] 4 (W'.setCell ⟨w.heap.size+1,0,none⟩ (.bool q))):=h2.set 0 (.bool q);have HBL:Hid (Below w.heap.size w (W'.setCell ⟨w.heap.size+1,0,none⟩ (.bool q))):=h3.setCell (p:=⟨w.heap.size+1,0,none⟩) (by show w.heap.size<=w.heap.size+1;omega) _;have HK:Hid ((W'.setCell ⟨w.heap.size+1,0,none⟩ (.bool q)).heap[D]?=some (.deferred (some []))):=(Below.heap_setCell W' ⟨w.heap.size+1,0,none⟩ (.bool q) D (by show D≠w.heap.size+1;omega)).trans hK;clear h1 h2 hk h3 h4 h5 hcame hK q1 q2 hq;go_wp2_with fail;generalize W'.setCell ⟨w.heap.size+1,0,none⟩ (.bool q)=w10 at *;refine⟨by simp,.inl ⟨_,_,rfl,run_takeDeferred HK,?_⟩⟩;have hbp:∀o,Below w.heap.size w10 (w10.putObj D o):=λo=>(Below.refl w.heap.size w10).grown (grownBy_putObj' w10 D _) HBL.out.size (λk e=>by cases e;omega)
  refine⟨_,Dt rfl _ _ (w.heap.size+1) q rfl ?_,Ab HT.out.symm,?_,?_⟩
  .exact(World.cell?_of_block (w:=w10) (a:=⟨w.heap.size+1,0,none⟩) (World.putObj_heap_other (by show w.heap.size+1≠D;omega))).trans (HR.out.cell rfl)
  .exact((HF.out.memo.below HBL hm4w).below (hbp _) hm4w)
  .exact But.of_below (HBL.out.trans (hbp _))
 .rintro D c pre W' hD⟨k,hk,hcame⟩⟨rfl,h2,h3,h4,h5⟩hK
  have HT:Hid (Fq x ci y b=false):=mK (Et _ hk ((Ka HV ci y.near b.zone k pre hcame).1.trans h5));have HR:=iH h2;have HBL:=iH h3;have HK:=iH hK;clear h2 h3 h4 h5 hcame hK;refine wpIn_wide.2 ?_;go_wp2_with fail;refine⟨by simp,.inl ⟨_,_,rfl,run_takeDeferred HK,?_⟩⟩;have hbp:∀o,Below w.heap.size W' (W'.putObj D o):=λo=>(Below.refl w.heap.size W').grown (grownBy_putObj' W' D _) HBL.out.size (λk e=>by cases e;omega)
  refine⟨_,Dt rfl _ _ (w.heap.size+1) false rfl ?_,Ab HT.out.symm,?_,?_⟩
  .exact(World.cell?_of_block (w:=W') (a:=⟨w.heap.size+1,0,none⟩) (World.putObj_heap_other (by show w.heap.size+1≠D;omega))).trans (HR.out.cell rfl)
  .exact((HF.out.memo.below HBL hm4w).below (hbp _) hm4w)
  .exact But.of_below (HBL.out.trans (hbp _))
end Go.Proofs.YtpidfnfilnkhkaaGreat
namespace Go.Proofs.YtpidfnfilnkhkaaGreat
open Go.RowKit Go.Lib Go.Shelf Tryz
theorem Kr{P:Program}(w:World)(dT sT ty elem:TypeId)(k:Nat)(b o dLen dCap:Nat)(a:Addr)(sLen sCap:Nat)(cs:List Value)(hu:P.underlying dT=some (.slice elem))(hs:(P.info? elem).map (·.size)=some k)(hn:cs.length=Nat.min sLen dLen*k)(hsrc:∀j v,cs[j]?=some v->w.cell? (a.add j)=some v)(hc:∀j,j<cs.length->(w.cell? ⟨b,o+j,none⟩).isSome=true)(hf:∀j,j<cs.length->w.frozen? ⟨b,o+j,none⟩=false)(h1:∀v∈cs,v.oneCell'=true) :
  (Builtin.copy_ #[dT,sT] ty #[.slice (some ⟨b,o,none⟩) dLen dCap,.slice (some a) sLen sCap]).run P w=.ok (goInt (Nat.min sLen dLen)) (w.setCells b o cs):=by
 have hl:=run_loadCells_list (P:=P) w a cs hsrc;have hst:=run_storeCells_cells (P:=P) b o cs 0 w (by simpa using hc) (by simpa using hf) h1
 cases hq:P.info? elem with
 |none=>simp[hq]at hs
 |some i =>
  have hi:i.size=k:=by simpa[hq]using hs
  simp[Builtin.copy_,run_underlying hu,Builtin.lenOf,Builtin.firstCells,sizeOf,typeInfo,hq,hi,<-hn,hl,hst]
theorem Nh:(prog.info? 143).map (·.size)=some 2:=by kernel_rfl
theorem CK:Qo 143 2:=⟨_,underlying143,rfl,Nh⟩
theorem eE:∃i,prog.info? 143=some i/\i.zero=some (.agg #[.int .i64 0,.nilFunc])/\i.size=2/\i.bytes=16:=by
 have h:(prog.info? 143).map (λi=>(i.zero,i.size,i.bytes))=some (some (.agg #[.int .i64 0,.nilFunc]),2,16):=by kernel_rfl
 cases hq:prog.info? 143 with
 |none=>rw[hq]at h;cases h
 |some i =>
  rw[hq]at h;simp at h;exact⟨i,rfl,h.1,h.2.1,h.2.2⟩
theorem Sd(b vb:Nat)(cs vs:List Value)(w:World)(hcl:cs.length=14)(hvl:vs.length=2)(hcs:∀j v,cs[j]?=some v->w.cell? ⟨b,j,none⟩=some v)(hvs:∀j v,vs[j]?=some v->w.cell? ⟨vb,j,none⟩=some v)(h1c:∀v∈cs,v.oneCell'=true)(h1v:∀v∈vs,v.oneCell'=true) :
  Calls prog 115 #[.slice (some ⟨b,0,none⟩) 7 7,.int .i64 0,.slice (some ⟨vb,0,none⟩) 1 1] w λe w'=>∃G,e=.returned (.slice (some ⟨w.heap.size,0,none⟩) 8 G)/\w'.rangeAt w.heap.size 0 (vs++cs)/\w.heap.size<w'.heap.size/\Below w.heap.size w w'/\(∀j,w'.frozen? ⟨w.heap.size,j,none⟩=false)/\8<=G:=by
 obtain⟨i0,hi0,hz0,hzs,hzb⟩:=eE;have hsz:=Nh;have hbw:b<w.heap.size:=block_lt_of_cell (hcs 0 _ (gE (by omega)));have hvw:vb<w.heap.size:=block_lt_of_cell (hvs 0 _ (gE (by omega)));have hold:(Builtin.firstCells i0.size 0 (.slice (some ⟨b,0,none⟩) 0 7)).run prog w.drew=.ok ([]:List Value).toArray w.drew:=by
  rw[hzs];exact run_firstCells_some w.drew 2 0 ⟨b,0,none⟩ 0 7 [] (by simp) (λj v hj=>by simp at hj)
 have hrz:∀ty,(Builtin.append_ #[110,3] ty #[.slice (some ⟨b,0,none⟩) 0 7,.int .i64 8]).run prog w =
   .ok (.slice (some ⟨w.heap.size,0,none⟩) 8 (grownCap w 8 7 143)) (w.drew.alloc (.cells (([]:List Value).toArray++Builtin.zeroCells (Value.agg #[.int .i64 0,.nilFunc]).cells 8++Builtin.zeroCells (Value.agg #[.int .i64 0,.nilFunc]).cells (grownCap w 8 7 143-8)) 143)):=λty=>by
  exact Lib.run_append_grow_zeros w 110 3 ty 143 i0 _ .i64 .i64 underlying110 underlying3 hi0 hz0 (some ⟨b,0,none⟩) 0 7 [] hold 8 (by omega) (by omega) (by omega) (by omega) (by rw[hzb];omega) (by rw[hzb];exact growslice_fits (by omega) (by omega))
 obtain⟨G,hG⟩:∃G,G=grownCap w 8 7 143:=⟨_,rfl⟩;obtain⟨ROW,hROW⟩:∃ROW:Array Value,ROW=([]:List Value).toArray++Builtin.zeroCells (Value.agg #[.int .i64 0,.nilFunc]).cells 8++Builtin.zeroCells (Value.agg #[.int .i64 0,.nilFunc]).cells (G-8):=⟨_,rfl⟩;rw[<-hG]at hrz;rw[<-hROW]at hrz;have hRl:16<=ROW.size:=by
  rw[hROW];simp[Builtin.zeroCells,Value.cells]
 obtain⟨W1,hW1⟩:∃W1,W1=w.drew.alloc (.cells ROW 143):=⟨_,rfl⟩;rw[<-hW1]at hrz;have hN:∀j,j<16->(W1.cell? ⟨w.heap.size,j,none⟩).isSome=true:=λj hj=>by
  rw[hW1,World.cell?_alloc_at (w:=w.drew) ROW _ w.heap.size j rfl,Array.getElem?_eq_getElem (by omega)];rfl
 have hNf:∀j,W1.frozen? ⟨w.heap.size,j,none⟩=false:=λj=>by rw[hW1];exact World.frozen?_alloc_at (w:=w.drew) ROW _ w.heap.size j rfl
 have hOb:∀j v,w.cell? ⟨b,j,none⟩=some v->W1.cell? ⟨b,j,none⟩=some v:=λj v h=>by rw[hW1,World.cell?_alloc_past (w:=w.drew) _ b j hbw];exact h
 have hOv:∀j v,w.cell? ⟨vb,j,none⟩=some v->W1.cell? ⟨vb,j,none⟩=some v:=λj v h=>by rw[hW1,World.cell?_alloc_past (w:=w.drew) _ vb j hvw];exact h
 have hcpA:∀(W:World),(∀x,W.cell? x=W1.cell? x)->(∀x,W.frozen? x=W1.frozen? x)->∀ty dc,(Builtin.copy_ #[110,110] ty #[.slice (some ⟨w.heap.size,0,none⟩) 8 dc,.slice (some ⟨vb,0,none⟩) 1 1]).run prog W=.ok (goInt 1) (W.setCells w.heap.size 0 vs):=λW hWc hWf ty dc =>
  Kr W _ _ ty 143 2 w.heap.size 0 8 dc ⟨vb,0,none⟩ 1 1 vs underlying110 hsz (by rw[hvl];rfl)
   (λj v hj=>by rw[Addr.add_lit,hWc];exact hOv _ v (by simpa using hvs j v hj))
   (λj hj=>by rw[hWc];exact hN _ (by omega)) (λj hj=>by rw[hWf];exact hNf _) h1v
 have hbN:b≠w.heap.size:=by omega
 have hcpB:∀(W:World),(∀x,W.cell? x=(W1.setCells w.heap.size 0 vs).cell? x)->(∀x,W.frozen? x=(W1.setCells w.heap.size 0 vs).frozen? x)->∀ty dc sc,(Builtin.copy_ #[110,110] ty #[.slice (some ⟨w.heap.size,2,none⟩) 7 dc,.slice (some ⟨b,0,none⟩) 7 sc]).run prog W=.ok (goInt 7) (W.setCells w.heap.size 2 cs):=λW hWc hWf ty dc sc =>
  Kr W _ _ ty 143 2 w.heap.size 2 7 dc ⟨b,0,none⟩ 7 sc cs underlying110 hsz (by rw[hcl];rfl)
   (λj v hj=>by
    rw[Addr.add_lit,hWc,World.cell?_setCells_out _ _ _ _ _ (λh _=>absurd h hbN)]
    exact hOb _ v (by simpa using hcs j v hj))
   (λj hj=>by rw[hWc];exact isSome_setCells _ _ _ _ (λt ht=>hN _ (by omega)) _ (hN _ (by omega)))
   (λj hj=>by rw[hWf,World.frozen?_setCells];exact hNf _) h1c
 have hGn:8<=G:=by rw[hG];exact grownCap_ge w _ _ _
 have hG63:G<=9223372036854775807:=by
  have:=grownCap_le_maxLen w 8 7 143 (by unfold maxLen;omega);rw[<-hG]at this;unfold maxLen at this;omega
 subst hW1;have hE1:∀x,((w.alloc (.cells ROW 143)).drew).cell? x=(w.drew.alloc (.cells ROW 143)).cell? x:=λx=>rfl
 have hE2:∀x,((w.alloc (.cells ROW 143)).drew).frozen? x=(w.drew.alloc (.cells ROW 143)).frozen? x:=λx=>rfl
 have hF1:∀x,(((w.alloc (.cells ROW 143)).drew.setCells w.heap.size 0 vs).drew).cell? x=((w.drew.alloc (.cells ROW 143)).setCells w.heap.size 0 vs).cell? x:=λx=>rfl
 have hF2:∀x,(((w.alloc (.cells ROW 143)).drew.setCells w.heap.size 0 vs).drew).frozen? x=((w.drew.alloc (.cells ROW 143)).setCells w.heap.size 0 vs).frozen? x:=λx=>rfl
 have mixed:prog.follows Departure.mixedOrders=true:=by kernel_rfl
 have hw1:IntKind.i64.wrap 1=1:=by rw[IntKind.wrap_i64];omega
 have hG1:¬(G=1):=by omega
 clear hold hG hROW;go_enter func115,ntmps115
 go_wp2_with(first
  |(at_builtin;refine Lib.wpList_append_run _ rfl _ _ _ _ rfl _ _ rfl rfl _ _ (hrz _) ?_)
  |(at_builtin;refine wpList_copy_runI _ rfl _ _ 110 110 rfl _ _ rfl rfl (hcpA _ hE1 hE2 _ _) ?_))
 go_region_law_o (refine step_copy_runI rfl _ _ 110 110 rfl (.slice (some ⟨w.heap.size,2,none⟩) 7 (G-1)) (.slice (some ⟨b,0,none⟩) 7 7) (by simp[Act.eval,Act.put]) (by simp[Act.eval,Act.put]) (hcpB _ hF1 hF2 3 (G-1) 7) ?_)
 go_wp2
 go_ret;have hbl:Below w.heap.size w ((((w.alloc (.cells ROW 143)).drew.setCells w.heap.size 0 vs).drew).setCells w.heap.size 2 cs):=Aj nL _ _ _ (Aj nL _ _ _ ((Below.refl _ w).alloc nL _).drew).drew;refine⟨G,rfl,?_,?_,hbl,λj=>?_,hGn⟩
 .have hR1:(((w.alloc (.cells ROW 143)).drew.setCells w.heap.size 0 vs).drew).rangeAt w.heap.size 0 vs:=World.rangeAt_setCells_same _ w.heap.size 0 vs (λj hj=>⟨hN _ (by omega),hNf _⟩)
  have hR2:=World.rangeAt_setCells_same (((w.alloc (.cells ROW 143)).drew.setCells w.heap.size 0 vs).drew) w.heap.size 2 cs (λj hj=>⟨by rw[hF1];exact isSome_setCells _ _ _ _ (λt ht=>hN _ (by omega)) _ (hN _ (by omega)),by rw[hF2,World.frozen?_setCells];exact hNf _⟩);intro j v hj;rw[List.getElem?_append]at hj
  split at hj
  .rename_i h
   rw[World.cell?_setCells_out _ _ _ _ _ (λ_ _=>Or.inl (by show 0+j<2;omega))];exact hR1 j v hj
  .have:=hR2 (j-2) v (by rw[hvl]at hj;exact hj)
   rwa [show 2+(j-2)=0+j by omega]at this
 .exact lL (by simp) (Aj (B:=0) (zL) _ _ _ (Aj (B:=0) (zL) _ _ _ (Below.refl _ ((w.alloc (.cells ROW 143)).drew))).drew).size
 .rw[World.frozen?_setCells,hF2,World.frozen?_setCells]
  exact hNf j
theorem AF(b vb:Nat)(cs vs:List Value)(w:World)(hcl:cs.length=14)(hvl:vs.length=2)(hcs:∀j v,cs[j]?=some v->w.cell? ⟨b,j,none⟩=some v)(hvs:∀j v,vs[j]?=some v->w.cell? ⟨vb,j,none⟩=some v)(h1c:∀v∈cs,v.oneCell'=true)(h1v:∀v∈vs,v.oneCell'=true) :
  Calls prog 115 #[.slice (some ⟨b,0,none⟩) 7 7,.int .i64 0,.slice (some ⟨vb,0,none⟩) 1 1] w λe w'=>∃G,e=.returned (.slice (some ⟨w.heap.size,0,none⟩) 8 G)/\w'.rangeAt w.heap.size 0 (vs++cs)/\w.heap.size<w'.heap.size/\Below w.heap.size w w' :=
 (Sd b vb cs vs w hcl hvl hcs hvs h1c h1v).mono λ_ _ ⟨G,h1,h2,h3,h4,_⟩=>⟨G,h1,h2,h3,h4⟩
end Go.Proofs.YtpidfnfilnkhkaaGreat
namespace Go.Proofs.YtpidfnfilnkhkaaGreat
open Go.RowKit Go.WideMaps Go.Maps Tryz
def Fw:List (Int×Nat×Bool)->Int
 |[]=>0
 |r::rest=>if r.2.2=true then r.1 else Fw rest
theorem Vm:∀(rs:List (Int×Nat×Bool))(k:Nat)(r:Int×Nat×Bool),rs[k]?=some r->r.2.2=true->(∀(j:Nat) q,j<k->rs[j]?=some q->q.2.2=false)->Fw rs=r.1
 |[],k,r,h,_,_=>by simp at h
 |a::rest,0,r,h,ht,_=>by
  simp at h;subst h;simp[Fw,ht]
 |a::rest,k+1,r,h,ht,hf=>by
  have h0:=hf 0 a (by omega) rfl;simp only[Fw,h0];rw[if_neg (by simp)];exact Vm rest k r (by simpa using h) ht (λj q hj hq=>hf (j+1) q (by omega) (by simpa using hq))
theorem Si:∀(rs:List (Int×Nat×Bool)),(∀(j:Nat) q,j<rs.length->rs[j]?=some q->q.2.2=false)->Fw rs=0
 |[],_=>rfl
 |a::rest,hf=>by
  have h0:=hf 0 a (by simp) rfl;simp only[Fw,h0];rw[if_neg (by simp)];exact Si rest (λj q hj hq=>hf (j+1) q (by simp;omega) (by simpa using hq))
def qQ(rb:Nat)(rs:List (Int×Nat×Bool))(w:World):Prop:=∀(k:Nat) r,rs[k]?=some r->w.cell? ⟨rb,k*2,none⟩=some (.int .i64 r.1)/\w.cell? ⟨rb,k*2+1,none⟩=some (.func (.func r.2.1) #[] #[])
theorem Pm{α:Type}{l:List α}{k:Nat}{a:α}(h:l[k]?=some a):l≠[]:=λe=>by rw[e]at h;cases h
theorem Sf{x:Flt}(hv:Au x=true){k:Nat}{c:Cpy}(h:x.copies[k]?=some c):x.services≠[]:=by
 obtain⟨_,_,_,_,_,hs⟩:=Aw hv;obtain⟨j,hj⟩:=hs k c h;intro e;rw[e]at hj;cases hj
theorem Sj(lo p m1 m2 m3 m4 ci bi:Nat)(x:Flt)(a1:OA)(c1:Nat)(a2:OA)(c2:Nat)(a3:OA)(c3:Nat)(y:Cpy)(a7:OA)(c7:Nat)(b:Brt)(am:OA)(cm:Nat)(u1 u2 u3:Int)(rs:List (Int×Nat×Bool))(rb rc:Nat)(w:World)(hK:SpotK w lo ci bi x a1 a3 y a7 b am)(hrl:rs.length<=8)(hsay:∀W,SpotK W lo ci bi x a1 a3 y a7 b am->∀(k:Nat) r,rs[k]?=some r->mU r.2.1 r.2.2 W p m1 m2 m3 m4 ci bi x a1 c1 a2 c2 a3 c3 y a7 c7 b am cm u1 u2 u3)(heg:∀(k:Nat) r,rs[k]?=some r->∀args w,(callFunc r.2.1 args).run prog w=.ok (.enter r.2.1 args) w)(hF:FoundM p m1 m2 m3 m4 (y.select,bi) x a1 c1 a2 c2 a3 c3 w)(hR:qQ rb rs w)(hrb:rb<w.heap.size)(hrm:rb≠m4) :
  Calls prog 87 #[.slice (some ⟨rb,0,none⟩) rs.length rc,.agg (Ai p ci bi y a7 c7 b am cm u1 u2 u3)] w λe w'=>e=.returned (.int .i64 (Fw rs))/\MemoAt m4 (y.select,bi) x.berths w'/\But m4 w.heap.size w w':=by
 have HK:=iH hK;obtain⟨n1,n3,n7,nm,hv,hy,hb⟩:=hK;have e1:=Pm hb;have e2:=Sf hv hy;have e3:=Pm hy;have hm4w:m4<w.heap.size:=hF.memo.lt;have HF:=iH hF;have HR:=iH hR;have HSAY:=iH hsay;have HEG:=iH heg;have HE1:=iH e1;have HE2:=iH e2;have HE3:=iH e3;clear n1 n3 n7 nm hv hy hb hF hR hsay heg e1 e2 e3;go_enter func87,ntmps87;go_wp2_with fail;have hb0:=(Below.refl _ w).alloc nL (Obj.cells (Ai p ci bi y a7 c7 b am cm u1 u2 u3) 60);have HX0:=iH (Blk.alloc w (Ai p ci bi y a7 c7 b am cm u1 u2 u3) 60);have HF0:=iH (HF.out.below hb0);have HB0:Hid (But m4 w.heap.size w (w.alloc (Obj.cells (Ai p ci bi y a7 c7 b am cm u1 u2 u3) 60))):=But.of_below hb0;have hs0:w.heap.size<(w.alloc (Obj.cells (Ai p ci bi y a7 c7 b am cm u1 u2 u3) 60)).heap.size:=by simp
 generalize w.alloc (Obj.cells (Ai p ci bi y a7 c7 b am cm u1 u2 u3) 60)=w0 at *;clear hb0;go_loopw [9] (λi wr=>∃k:Nat,k<=rs.length/\i=.int .i64 k/\w.heap.size<wr.heap.size/\Hid (∀(j:Nat) q,j<k->rs[j]?=some q->q.2.2=false)/\Hid (FoundM p m1 m2 m3 m4 (y.select,bi) x a1 c1 a2 c2 a3 c3 wr)/\Hid (Blk w.heap.size (Ai p ci bi y a7 c7 b am cm u1 u2 u3) 60 wr)/\Hid (But m4 w.heap.size w wr)) (λi _=>rs.length-(intOf i).toNat)
 case atStart=>exact⟨0,zL,rfl,hs0,λj q h=>by omega,HF0,HX0,HB0⟩
 case round =>
  clear HF0 HX0 HB0 hs0;obtain⟨k,hk,rfl,hs1,hN,hF1,hX1,hB1⟩:=hrel;by_cases hlt:k<rs.length
  .obtain⟨r,hr⟩:=gXe hlt
   obtain⟨q0,q1⟩:=HR.out k r hr;have c0:wr.cell? ⟨rb,k*2,none⟩=some (.int .i64 r.1):=(hB1.out.cell (a:=⟨rb,k*2,none⟩) hrb hrm).trans q0;have c1':wr.cell? ⟨rb,k*2+1,none⟩=some (.func (.func r.2.1) #[] #[]):=(hB1.out.cell (a:=⟨rb,k*2+1,none⟩) hrb hrm).trans q1;have HSK:=iH (λW hk=>HSAY.out W hk k r hr);have heg:=HEG.out k r hr;have HRR:=iH hr;obtain⟨cd,fid,tr⟩:=r;simp only at c0 c1' HSK heg;clear q0 q1 hr;have hza:=Blk.alloc wr #[.int .i64 0,.nilFunc] 143;have HTS:Hid ((wr.alloc (Obj.cells #[.int .i64 0,.nilFunc] 143)).there wr.heap.size 0 2):=hza.there;obtain⟨w4,HW4⟩:∃w4,Hid (w4=(wr.alloc (Obj.cells #[.int .i64 0,.nilFunc] 143)).setCells wr.heap.size 0 [.int .i64 cd,.func (.func fid) #[] #[]]):=⟨_,rfl⟩;have HK4:Hid (Blk wr.heap.size #[.int .i64 cd,.func (.func fid) #[] #[]] 143 w4):=by
    show Blk _ _ _ _
    rw[HW4.out];exact hza.setAll #[.int .i64 cd,.func (.func fid) #[] #[]] rfl
   have hbx:Below wr.heap.size wr w4:=by
    rw[HW4.out];exact Aj nL _ _ _ ((Below.refl _ wr).alloc nL _)
   have HF4:=iH (hF1.out.below hbx);have HX4:=qBk hX1 hbx;have HB4:Hid (But m4 w.heap.size w w4):=hB1.out.trans (But.of_below (hbx.mono (lE hs1)));have hs4:wr.heap.size<w4.heap.size:=HK4.out.lt;clear hza;go_upto_region 4 with(first|(refine An rfl 143 _ _ rfl wr.heap.size 0 #[.int .i64 cd,.func (.func fid) #[] #[]] rfl rfl HTS Nh (by simp[Value.oneCell']) w4 HW4 ?_));have k1:w4.cell? ⟨wr.heap.size,1,none⟩=some (.func (.func fid) #[] #[]):=HK4.out.cell rfl;clear hbx hF1 hX1 hB1 c0 c1';go_wp2_with(first|(refine wpList_load_mid rfl 60 _ rfl w.heap.size 0 (by first|rfl|(simp[go_sem];done)) (Ai p ci bi y a7 c7 b am cm u1 u2 u3).toList _ HX4.out.rangeA underlying60 rfl Bk ?_));refine(HSK w4 (HK.out.keep (Zf HB4 HF.out.memo HF4.out.memo)) w4 (Below.refl _ _) HF4).mono ?_;rintro e w5⟨rfl,hm5,hb5⟩;have HM5:=iH hm5;have HF5:Hid (FoundM p m1 m2 m3 m4 (y.select,bi) x a1 c1 a2 c2 a3 c3 w5):=HF4.out.but hb5 hm5 HE1 HE2 HE3;have HB5:Hid (But m4 w.heap.size w w5):=HB4.out.trans (hb5.mono (by omega));have HX5:Hid (Blk w.heap.size (Ai p ci bi y a7 c7 b am cm u1 u2 u3) 60 w5):=(hb5.block w.heap.size (by omega) (by omega)).trans HX4;have k0:w5.cell? ⟨wr.heap.size,0,none⟩=some (.int .i64 cd):=(hb5.cell (a:=⟨wr.heap.size,0,none⟩) hs4 (by show wr.heap.size≠m4;omega)).trans (HK4.out.cell rfl);have hs5:w.heap.size<w5.heap.size:=by have:=hb5.size;omega
   clear hm5 hb5 k1 heg HSK
   cases tr with
   |true =>
    have HE:=iH (Vm rs k _ HRR rfl hN.out)
    go_wp2
    go_ret;exact⟨Am HE.out.symm,HM5,HB5⟩
   | false =>
    have HN2:Hid (∀(j:Nat) q,j<k+1->rs[j]?=some q->q.2.2=false):=λj q hj hq=>by
     by_cases e:j=k
     .subst e
      have:=HRR.out.symm.trans hq;cases this
      rfl
     .exact hN.out j q (by omega) hq
    go_wp2
    go_roundw
    case rel=>exact⟨k+1,by omega,by go_num,hs5,HN2,HF5,HX5,HB5⟩
    case measure=>simp[intOf];omega
  .have hke:k=rs.length:=by omega
   subst hke;have HE:=iH (Si rs hN.out)
   go_wp2
   go_ret;exact⟨Am HE.out.symm,hF1.out.memo,hB1.out⟩
end Go.Proofs.YtpidfnfilnkhkaaGreat
