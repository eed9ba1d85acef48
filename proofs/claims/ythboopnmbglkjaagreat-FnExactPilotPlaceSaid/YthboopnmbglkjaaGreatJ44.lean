import Derived.Test.YthboopnmbglkjaaGreatJ43
set_option maxHeartbeats 8000000
set_option maxRecDepth 100000
namespace Go.Proofs.YthboopnmbglkjaaGreat
open Go.RowKit Tryz
attribute [local go_sem] Oper.semAt_some
theorem HpW.own{mz:Nat}{x:Flt}{a3:OA}{c3:Nat}{Wb:World}{Bc hb:Nat}{lv:Value}{l:List Nat}{W:World}(h:HpW mz x a3 c3 Wb Bc hb lv l W):∃g,(∀g',lv.ownBlock=some g'->g'=g)/\Wb.heap.size<=g/\g<W.heap.size:=by
 rcases h.row.2 with⟨h1,_⟩|⟨g,cap,cur,h1,h2,h3,_⟩
 .exact⟨hb,(λg' e=>by rw[h1]at e;cases e),h.b1,h.blk.lt⟩
 exact⟨g,(λg' e=>by rw[h1]at e;cases e;rfl),h2,(Array.getElem?_eq_some_iff.1 h3).1⟩
theorem MemoAt.same{m4 n:Nat}{bs:List Brt}{W W':World}(h:MemoAt m4 n bs W)(e:W'.heap[m4]?=W.heap[m4]?):MemoAt m4 n bs W':=by
 obtain⟨n',D',q0,⟨es,clock,q1,q2⟩,q3⟩:=h;exact⟨n',D',q0,⟨es,clock,e.trans q1,q2⟩,q3⟩
theorem MemoAt.noCell{m4 n:Nat}{bs:List Brt}{W:World}(h:MemoAt m4 n bs W)(o:Nat)(v:Value):W.cell? (E m4 o)≠some v:=by
 obtain⟨_,_,_,⟨es,cl,g1,_⟩,_⟩:=h;simp[World.cell?,g1]
theorem zV{B m n:Nat}{W W':World}(hb:But m n W W')(hn:W.heap.size<=n)(h2:m<B):KeepsFrom B W W':=⟨hb.size,λk _ hB hk _=>(hb.block k (lL (Array.getElem?_eq_some_iff.1 hk).1 hn) (by omega)).trans hk⟩
theorem FoundM.rnd{p m1 m2 m3 m4 n n':Nat}{x:Flt}{a1:OA}{c1:Nat}{a2:OA}{c2:Nat}{a3:OA}{c3:Nat}{w w':World}(h:FoundM p m1 m2 m3 m4 n x a1 c1 a2 c2 a3 c3 w)(hb:But m4 w.heap.size w w')(hm:MemoAt m4 n' x.berths w')(hv:Bb x=true){k:Nat}{c:Cpy}(hc:x.copies[k]?=some c)(hE:x.berths=[]->bW w w'):FoundM p m1 m2 m3 m4 n' x a1 c1 a2 c2 a3 c3 w':=by
 by_cases e:x.berths=[]
 .obtain⟨h1,h2,h3,h4,h5,_,h7⟩:=h.below (hE e)
  exact⟨h1,h2,h3,h4,h5,hm,h7⟩
 exact h.but hb hm e (Jf hv hc) (Iw hc)
theorem al4(w:World)(A B C D:Array Value)(s t u v:TypeId):∃w0,w0=(((w.alloc (Obj.cells A s)).alloc (Obj.cells B t)).alloc (Obj.cells C u)).alloc (Obj.cells D v)/\Hid (Blk w.heap.size A s w0)/\Hid (Blk (w.heap.size+1) B t w0)/\Hid (Blk (w.heap.size+1+1) C u w0)/\Hid (Blk (w.heap.size+1+1+1) D v w0)/\Hid (bW w w0):=by
 refine⟨_,rfl,?_,?_,?_,?_,?_⟩
 .exact((((Blk.alloc w A s).below ((Below.refl _ _).alloc nL _) (Blk.alloc w A s).lt).below ((Below.refl _ _).alloc nL _) (by simp only[World.size_alloc];omega)).below ((Below.refl _ _).alloc nL _) (by simp only[World.size_alloc];omega))
 .have h:=Blk.alloc (w.alloc (Obj.cells A s)) B t
  rw[World.size_alloc]at h;exact(h.below ((Below.refl _ _).alloc nL _) h.lt).below ((Below.refl _ _).alloc nL _) (by simp only[World.size_alloc];omega)
 .have h:=Blk.alloc ((w.alloc (Obj.cells A s)).alloc (Obj.cells B t)) C u
  rw[World.size_alloc,World.size_alloc]at h;exact h.below ((Below.refl _ _).alloc nL _) h.lt
 .have h:=Blk.alloc (((w.alloc (Obj.cells A s)).alloc (Obj.cells B t)).alloc (Obj.cells C u)) D v
  rw[World.size_alloc,World.size_alloc,World.size_alloc]at h;exact h
 exact((((Below.refl _ w).alloc nL _).alloc (by simp only[World.size_alloc];omega) _).alloc (by simp only[World.size_alloc];omega) _).alloc (by simp only[World.size_alloc];omega) _
theorem st3{w:Nat}{W:World}{u1 u2 u3:Value}{s t u:TypeId}(h2:Blk (w+1) #[u1] s W)(h3:Blk (w+1+1) #[u2] t W)(h4:Blk (w+1+1+1) #[u3] u W)(v1 v2 v3:Value) :
  Blk (w+1) #[v1] s (((W.setCell (E (w+1) 0) v1).setCell (E (w+1+1) 0) v2).setCell (E (w+1+1+1) 0) v3)/\Blk (w+1+1) #[v2] t (((W.setCell (E (w+1) 0) v1).setCell (E (w+1+1) 0) v2).setCell (E (w+1+1+1) 0) v3)/\Blk (w+1+1+1) #[v3] u (((W.setCell (E (w+1) 0) v1).setCell (E (w+1+1) 0) v2).setCell (E (w+1+1+1) 0) v3)/\Below w W (((W.setCell (E (w+1) 0) v1).setCell (E (w+1+1) 0) v2).setCell (E (w+1+1+1) 0) v3)/\∀b,b≠w+1->b≠w+1+1->b≠w+1+1+1->(((W.setCell (E (w+1) 0) v1).setCell (E (w+1+1) 0) v2).setCell (E (w+1+1+1) 0) v3).heap[b]?=W.heap[b]? :=
 ⟨((h2.set 0 v1).other (a:=(E (w+1+1) 0)) (by show w+1≠w+1+1;omega) v2).other (a:=(E (w+1+1+1) 0)) (by show w+1≠w+1+1+1;omega) v3,
  ((h3.other (a:=(E (w+1) 0)) (by show w+1+1≠w+1;omega) v1).set 0 v2).other (a:=(E (w+1+1+1) 0)) (by show w+1+1≠w+1+1+1;omega) v3,
  ((h4.other (a:=(E (w+1) 0)) (by show w+1+1+1≠w+1;omega) v1).other (a:=(E (w+1+1) 0)) (by show w+1+1+1≠w+1+1;omega) v2).set 0 v3,
  (((Below.refl _ _).setCell (p:=(E (w+1) 0)) (by show w<=w+1;omega) _).setCell (p:=(E (w+1+1) 0)) (by show w<=w+1+1;omega) _).setCell (p:=(E (w+1+1+1) 0)) (by show w<=w+1+1+1;omega) _,
  λb e1 e2 e3=>(Below.heap_setCell _ _ _ b e3).trans ((Below.heap_setCell _ _ _ b e2).trans (Below.heap_setCell _ _ _ b e1))⟩
theorem Mv{fn:Func}{p q r:Tmp}(h:fn.results=#[.cell p 3,.cell q 3,.cell r 4])(tmps:Array Value)(w:World)(g1 g2 g3:Nat)(v u:Value)(b:Bool)(hp:tmps.getD p undef=pP g1 0)(hq:tmps.getD q undef=pP g2 0)(hr:tmps.getD r undef=pP g3 0)(hv:w.cell? (E g1 0)=some v)(hu:w.cell? (E g2 0)=some u)(hc:w.cell? (E g3 0)=some (.bool b)) :
  (results fn tmps).run prog w=.ok (.tuple #[v,u,.bool b]) w:=by
 have hp':tmps[p]?.getD undef=pP g1 0:=by simpa using hp
 have hq':tmps[q]?.getD undef=pP g2 0:=by simpa using hq
 have hr':tmps[r]?.getD undef=pP g3 0:=by simpa using hr
 have h1:(loadVar 3 (E g1 0)).run prog w=.ok v w:=by simp[go_sem,hv]
 have h2:(loadVar 3 (E g2 0)).run prog w=.ok u w:=by simp[go_sem,hu]
 have h3:(loadVar 4 (E g3 0)).run prog w=.ok (.bool b) w:=by simp[go_sem,hc]
 simp[results,h,hp',hq',hr',asAddr,h1,h2,h3,Sem.run_bind,Result.andThen]
def fsC(o:Option (Nat×(Nat×Brt))):Nat:=match o with
 |none=>0
 |some q=>q.1
def fsB(o:Option (Nat×(Nat×Brt))):Nat:=match o with
 |none=>0
 |some q=>q.2.1
def BC(x:Flt)(m4 n0:Nat)(w:World)(e:Ending)(w':World):Prop:=e=.returned (.tuple #[X ((fsC (Fv x):Nat):Int),X ((fsB (Fv x):Nat):Int),.bool (Fv x).isSome])/\But m4 w.heap.size w w'/\MemoAt m4 (n0+10000) x.berths w'
theorem pL(lo p m1 m2 m3 m4 n0:Nat)(x:Flt)(a1:OA)(c1:Nat)(a2:OA)(c2:Nat)(a3:OA)(c3:Nat)(w:World)(hF:FoundM p m1 m2 m3 m4 n0 x a1 c1 a2 c2 a3 c3 w)(hn0:n0<=6000000)(n1:sB lo w a1 x.berths)(n3:sC lo w a3 x.copies)(hv:Bb x=true) :
  Calls prog 26 #[pP p 0] w λe w'=>BC x m4 n0 w e w':=by
 obtain⟨w1,hw1,HB1,H2,H3,H4,HW1⟩:=al4 w #[pP p 0] #[X 0] #[X 0] #[.bool false] 59 3 3 4;have hm4w:m4<w.heap.size:=hF.memo.lt;have N1:=iH (n1.below BrtC.holds HW1 nL);have N3:=iH (n3.below CpyC.holds HW1 nL);have HF:=iH (hF.below HW1);have HV:=iH hv;obtain⟨_,h60,_,hasc,_,_⟩:=Bh hv;have hb12:x.berths.length<=12:=(Au hv).1;have HASC:=iH hasc;have HO:=iH (ltQ x hasc);clear hF n1 n3 hv hasc;refine(callsIn_wide (n:=7)).1 ?_;refine callsIn_of_wp_marks func26 rfl trivial ?_ rfl;refine wpIn_wide.2 ?_;simp only[ntmps26,List.size_toArray,List.length_cons,List.length_nil,Nat.reduceAdd,Nat.reduceSub,Array.replicate_succ,Array.replicate_zero,List.push_toArray,List.append_toArray,List.nil_append,List.cons_append];go_upto_region 1 with fail;rw[<-hw1];clear hw1;have h41:w.heap.size+1+1+1<w1.heap.size:=H4.out.lt;have k0:=HB1.out.cell (o:=0) rfl;have p3:w1.cell? (E p 3)=some (.slice a3 x.copies.length c3):=HF.out.1 3 _ rfl;go_wp2_with fail;clear k0;refine(qG w1.heap.size x a3 c3 lo p w1 N3 p3 HASC (by omega) (λo v h=>absurd (block_lt_of_cell h) (Nat.lt_irrefl _))).mono ?_;rintro e w2⟨Bc,hb,lv,l,rfl,hH,hHe,hPe⟩;obtain⟨g,hgo,hg1,hg2⟩:=hH.own;have q1:=hH.blk.lt;have q2:=hH.box.lt;have q3:=hH.b1;have q4:=hH.b2;have HHe:=iH hHe;have HPe:=iH hPe;have HGo:=iH hgo;have hbl:bW w1 w2:=But.below hH.bel nL nL;have HH:Hid (HpW m4 x a3 c3 w1 Bc hb lv l w2):=⟨But.of_below hbl,hH.box,hH.blk,hH.row,hH.n1,hH.n3,hH.b1,hH.b2⟩;have HMM:=iH (HF.out.memo.below hbl (by omega));have HBL:=iH hbl;clear hH hHe hPe hgo p3 hbl;go_wp2_with fail;refine(yD hb _).mono ?_;rintro e w3⟨rfl,hw3⟩;have hb3:bW w2 w3:=by rw[hw3];go_grown
 have HA:Hid (Blk w2.heap.size #[pP hb 0] 113 w3):=by rw[hw3];exact Blk.alloc _ _ _
 replace HH:=iH (HH.out.below hb3);replace HMM:=iH (HMM.out.below hb3 HMM.out.lt);have HL3:=qTH HBL hb3;have hs3:w2.heap.size<w3.heap.size:=HA.out.lt;have HB3:Hid (But m4 w1.heap.size w1 w3):=HH.out.bel;clear hw3 hb3;generalize w2.heap.size=Ba at *;go_wp2_with fail;have HNC:=iH HF.out.memo.noCell
 refine wpIn_wide.1 (fO (n:=6) (λk=>k=m4) g hb (gf:=109) (lb:=#[pP Ba 0]) rfl (enters_of func109 (by kernel_rfl) rfl)
  (xG m4 x a3 c3 w1 Bc hb Ba (cfQ x) HO (λk=>k=m4) w3.heap.size lv l g w3 (gN m4 x a3 c3 lo w1 Bc N3 HNC) HH HHe (λb hb9=>bE (HPe.out.subset hb9)) (by have h1:=HPe.out.length_eq;have h2:=Hg x x.copies.length;omega) HGo HA (by omega) (λk e=>.inr e) (by omega) (by omega) (by omega) (by omega) (by omega) (by omega) (by omega) (by omega) (by omega) (by omega)) (by omega) (by omega) (λ_=>rfl)
  (λpre W'=>(∀d∈pre,chF x d.1=none)/\MemoAt m4 (n0+156*pre.length) x.berths W'/\But m4 w1.heap.size w1 W'/\w3.heap.size<=W'.heap.size/\(x.berths=[]->bW w1 W'))
  (λpre W'=>∃(pre':List (Fin x.copies.length))(c:Fin x.copies.length)(z:Nat×Brt),pre=pre'++[c]/\(∀d∈pre',chF x d.1=none)/\chF x c.1=some z/\Blk (w.heap.size+1) #[X ((c.1:Nat):Int)] 3 W'/\Blk (w.heap.size+1+1) #[X ((z.1:Nat):Int)] 3 W'/\Blk (w.heap.size+1+1+1) #[.bool true] 4 W'/\But m4 w.heap.size w W'/\MemoAt m4 (n0+10000) x.berths W'/\w3.heap.size<=W'.heap.size) ?_ ?_ ?_ ?_
  (λc a' _=>a'={tmps:=#[pP p 0,pP w.heap.size 0,pP (w.heap.size+1) 0,pP (w.heap.size+1+1) 0,pP (w.heap.size+1+1+1) 0,X ((c.1:Nat):Int),undef,undef,pP p 0,pP hb 0,.func (.func 109) #[] #[pP Ba 0],X ((c.1:Nat):Int),undef,undef,undef,undef,undef,undef,undef,undef,undef],defers:=[]}) ?_ ?_ ?_ ?_ ?_)
 .rintro s A B row⟨h1,h2,h3,h4,h5⟩hgr hr
  have hne:∀k,k<w3.heap.size->some k≠row:=λk hk e=>by have:=(hr _ e.symm).1;omega
  exact⟨h1,h2.same (hgr.block m4 h2.lt (hne _ (by omega))),h3.trans ⟨hgr.os,hgr.tape,hgr.output,hgr.size,λk hk _=>hgr.block k (by omega) (hne k (by omega))⟩,lT h4 hgr.size,λe=>(h5 e).trans ⟨hgr.os,hgr.tape,hgr.output,hgr.size,λk hk=>hgr.block k (by omega) (hne k (by omega))⟩⟩
 .rintro s A B row⟨pre',c,z,h1,h2,h3,h4,h5,h6,h7,h8,h9⟩hgr hr
  have hne:∀k,k<w3.heap.size->some k≠row:=λk hk e=>by have:=(hr _ e.symm).1;omega
  exact⟨pre',c,z,h1,h2,h3,h4.grown hgr (hne _ (by omega)),h5.grown hgr (hne _ (by omega)),h6.grown hgr (hne _ (by omega)),h7.trans ⟨hgr.os,hgr.tape,hgr.output,hgr.size,λk hk _=>hgr.block k (by omega) (hne k (by omega))⟩,h8.same (hgr.block m4 h8.lt (hne _ (by omega))),lT h9 hgr.size⟩
 .rintro s A B⟨h1,h2,h3,h4,h5⟩hB
  exact⟨h1,h2.same (hB.block m4 h2.lt (by omega) (by omega)),h3.trans ⟨hB.os,hB.tape,hB.output,hB.size,λk hk _=>hB.block k (by omega) (by omega) (by omega)⟩,lT h4 hB.size,λe=>(h5 e).trans ⟨hB.os,hB.tape,hB.output,hB.size,λk hk=>hB.block k (by omega) (by omega) (by omega)⟩⟩
 .exact⟨λd hd=>(by cases hd),HMM,HB3,Nat.le_refl _,λ_=>HL3.out⟩
 .exact λc a' _ A B row h _ _=>h
 .rintro l' pre c W' K hI hK
  have hKK:=iH hK;have HI:=iH hI;clear hK hI;simp only[sF]
  gi_wp2_with fail
  exact hKK.out _ _ (KeepsFrom.refl _ _) (KpQ.refl _ _ _) HI rfl
 .rintro l' pre c a' W' ⟨h1,h2,h3,h4,h5⟩rfl hlt'
  obtain⟨y,hy⟩:∃y,x.copies[c.1]?=some y:=⟨x.copies[c.1],gE c.2⟩;have hCF:chF x c.1=chT x c.1 y x.berths.length:=by unfold chF;rw[hy]
  have hll:pre.length<60:=by
   have g1:=HPe.out.length_eq;have g2:=Hg x x.copies.length;omega
  have hk:Keeps lo w1 W':=Gv h3 HF.out.memo h2;have HCC:=iH (kR W' lo p m1 m2 m3 m4 c.1 (n0+156*pre.length) x a1 c1 a2 c2 a3 c3 y W' (Keeps.refl _ _) (HF.out.rnd h3 h2 HV hy h5) (by omega) (N1.out.keep BrtC.holds hk nL) (N3.out.keep CpyC.holds hk nL) HV hy);have k0:W'.cell? (E w.heap.size 0)=some (pP p 0):=(h3.cell (a:=(E w.heap.size 0)) (by show w.heap.size<w1.heap.size;omega) (by show w.heap.size≠m4;omega)).trans (HB1.out.cell rfl);have H1:=iH h1;have HBT:=iH h3;have HCF:=iH hCF;have H5:=iH h5;clear h1 h2 h3 hCF hk hy h5
  gi_wp2_with fail
  refine⟨trivial,(CallsIn.inRound l' (callsIn_wide.2 HCC)).mono ?_⟩;rintro e W8⟨rfl,hb8,hm8,he8⟩;have HE8:Hid (x.berths=[]->bW w1 W8):=λe=>(H5 e).trans ((he8 e).mono (by omega))
  clear k0 HCC;have hs8:=hb8.size;have HB8:Hid (But m4 w1.heap.size w1 W8):=HBT.out.trans (hb8.mono (by omega));have H28:Hid (Blk (w.heap.size+1) #[X 0] 3 W8):=(HB8.out.block _ (by omega) (by omega)).trans H2;have H38:Hid (Blk (w.heap.size+1+1) #[X 0] 3 W8):=(HB8.out.block _ (by omega) (by omega)).trans H3;have H48:Hid (Blk (w.heap.size+1+1+1) #[.bool false] 4 W8):=(HB8.out.block _ (by omega) (by omega)).trans H4;have HKF:=iH (zV (B:=w3.heap.size) hb8 nL (by omega));have HKP:Hid (KpQ (λk=>k=m4) w3.heap.size W' W8):=⟨hb8.os,hb8.tape,hb8.output,hb8.size,λk hk hG=>hb8.block k (by omega) hG⟩;have HM8:=iH hm8;clear hb8 hm8 HBT he8 H5;obtain⟨cv,hcv⟩:∃o,chT x c.1 y x.berths.length=o:=⟨_,rfl⟩;rw[hcv];have HCV:Hid (chF x c.1=cv):=HCF.out.trans hcv;clear hcv HCF
  cases cv with
  |none =>
   simp only[plC,Option.isSome_none]
   gi_wp2_with fail
   refine⟨HKF,HKP,λd hd=>?_,HM8.out.mono (by rw[List.length_append,List.length_singleton];omega),HB8,by omega,HE8⟩;rcases List.mem_append.1 hd with hd|hd
   .exact H1.out d hd
   rw[List.mem_singleton.1 hd];exact HCV.out
  |some z =>
   simp only[plC,Option.isSome_some];have r2:W8.cell? (E (w.heap.size+1) 0)=some (X 0):=H28.out.cell rfl;have f2:W8.frozen? (E (w.heap.size+1) 0)=false:=H28.out.frozen 0;have r3:W8.cell? (E (w.heap.size+1+1) 0)=some (X 0):=H38.out.cell rfl;have f3:W8.frozen? (E (w.heap.size+1+1) 0)=false:=H38.out.frozen 0;have r4:W8.cell? (E (w.heap.size+1+1+1) 0)=some (.bool false):=H48.out.cell rfl;have f4:W8.frozen? (E (w.heap.size+1+1+1) 0)=false:=H48.out.frozen 0
   gi_wp2_with fail
   obtain⟨b2,b3,b4,bB,bS⟩:=st3 H28 H38 H48 (X ((c.1:Nat):Int)) (X ((z.1:Nat):Int)) (.bool true);have hz9:=bB.size;refine⟨HKF.out.trans (((KeepsOthers.setCell _ _ _).trans ((KeepsOthers.setCell _ _ _).trans (KeepsOthers.setCell _ _ _))).from _),pre,c,z,rfl,H1,HCV,b2,b3,b4,((But.of_below HW1).trans (HB8.out.mono HW1.out.size)).trans (But.of_below bB),(HM8.out.mono (by omega)).below bB (by omega),Nat.le_trans (by omega) hz9⟩
 .rintro D xs W' hD⟨hS1,hS2⟩⟨h1,h2,h3,h4,h5⟩hKD
  have HQ:Hid (Fv x=none):=by
   have e:=mF HO (hS1.trans HPe) hS2;show Td x (qTo x x.copies.length)=none
   rw[<-e];refine Ru λc hc=>?_
   obtain⟨d,hd,rfl⟩:=List.mem_map.1 hc;exact h1 d hd
  have hxl:xs.length<=60:=by
   have g1:=(hS1.trans HPe).length_eq;have g2:=Hg x x.copies.length;rw[List.length_map]at g1;omega
  have H28:Hid (Blk (w.heap.size+1) #[X 0] 3 W'):=(h3.block _ (by omega) (by omega)).trans H2;have H38:Hid (Blk (w.heap.size+1+1) #[X 0] 3 W'):=(h3.block _ (by omega) (by omega)).trans H3;have H48:Hid (Blk (w.heap.size+1+1+1) #[.bool false] 4 W'):=(h3.block _ (by omega) (by omega)).trans H4;have HB8:Hid (But m4 w.heap.size w W'):=(But.of_below HW1).trans (h3.mono HW1.out.size);have HM8:=iH (h2.mono (show n0+156*xs.length<=n0+10000 by omega));have HKD:=iH hKD;have r2:W'.cell? (E (w.heap.size+1) 0)=some (X 0):=H28.out.cell rfl;have f2:W'.frozen? (E (w.heap.size+1) 0)=false:=H28.out.frozen 0;have r3:W'.cell? (E (w.heap.size+1+1) 0)=some (X 0):=H38.out.cell rfl;have f3:W'.frozen? (E (w.heap.size+1+1) 0)=false:=H38.out.frozen 0;have r4:W'.cell? (E (w.heap.size+1+1+1) 0)=some (.bool false):=H48.out.cell rfl;have f4:W'.frozen? (E (w.heap.size+1+1+1) 0)=false:=H48.out.frozen 0;clear hS1 hS2 h1 h2 h3 h5 hKD;go_wp2_with fail;obtain⟨b2,b3,b4,bB,bS⟩:=st3 H28 H38 H48 (X 0) (X 0) (.bool false);have hkd:=(bS D (by omega) (by omega) (by omega)).trans HKD;have hm9:=HM8.out.below bB (by omega);have hb9:=HB8.out.trans (But.of_below (p:=m4) bB);have hz9:=bB.size;generalize((W'.setCell (E (w.heap.size+1) 0) (X 0)).setCell (E (w.heap.size+1+1) 0) (X 0)).setCell (E (w.heap.size+1+1+1) 0) (.bool false)=WZ at *;refine⟨by simp,.inl ⟨_,_,rfl,run_takeDeferred hkd,?_⟩⟩;have hlow:∀o,Below w3.heap.size WZ (WZ.putObj D o):=λo=>⟨rfl,rfl,rfl,by simp,λb hb=>World.putObj_heap_other (by omega)⟩
  refine⟨_,Mv rfl _ _ (w.heap.size+1) (w.heap.size+1+1) (w.heap.size+1+1+1) (X 0) (X 0) false rfl rfl rfl (((hlow _).cell (p:=(E (w.heap.size+1) 0)) (by show w.heap.size+1<_;omega)).trans (b2.cell rfl)) (((hlow _).cell (p:=(E (w.heap.size+1+1) 0)) (by show w.heap.size+1+1<_;omega)).trans (b3.cell rfl)) (((hlow _).cell (p:=(E (w.heap.size+1+1+1) 0)) (by show w.heap.size+1+1+1<_;omega)).trans (b4.cell rfl)),?_,hb9.trans (But.of_below ((hlow _).mono (by omega))),hm9.below (hlow _) (by omega)⟩;rw[HQ.out];rfl
 rintro D xs W' hD⟨l',hS1,hS2,hS3⟩⟨pre',c,z,h1,h2,h3,h4,h5,h6,h7,h8,h9⟩hKD;have HQ:Hid (Fv x=some (c.1,z)):=by
  obtain⟨r,hr⟩:=BG HO (hS1.trans HPe) hS2 (λa ha b hb9=>by
   obtain⟨d,hd,rfl⟩:=List.mem_map.1 ha
   exact hS3 d hd b hb9)
  show Td x (qTo x x.copies.length)=_
  rw[hr,h1,List.map_append,List.append_assoc];refine aH h3 λd hd=>?_
  obtain⟨e,he,rfl⟩:=List.mem_map.1 hd;exact h2 e he
 have H28:=iH h4;have H38:=iH h5;have H48:=iH h6;have HB8:=iH h7;have HM8:=iH h8;have HKD:=iH hKD;clear h1 h2 h3 h4 h5 h6 h7 h8 hS1 hS2 hS3 hKD;refine wpIn_wide.2 ?_;go_wp2_with fail;refine⟨by simp,.inl ⟨_,_,rfl,run_takeDeferred HKD,?_⟩⟩;have hlow:∀o,Below w3.heap.size W' (W'.putObj D o):=λo=>⟨rfl,rfl,rfl,by simp,λb hb=>World.putObj_heap_other (by omega)⟩
 refine⟨_,Mv rfl _ _ (w.heap.size+1) (w.heap.size+1+1) (w.heap.size+1+1+1) (X ((c.1:Nat):Int)) (X ((z.1:Nat):Int)) true rfl rfl rfl (((hlow _).cell (p:=(E (w.heap.size+1) 0)) (by show w.heap.size+1<_;omega)).trans (H28.out.cell rfl)) (((hlow _).cell (p:=(E (w.heap.size+1+1) 0)) (by show w.heap.size+1+1<_;omega)).trans (H38.out.cell rfl)) (((hlow _).cell (p:=(E (w.heap.size+1+1+1) 0)) (by show w.heap.size+1+1+1<_;omega)).trans (H48.out.cell rfl)),?_,HB8.out.trans (But.of_below ((hlow _).mono (by omega))),HM8.out.below (hlow _) (by omega)⟩;rw[HQ.out];rfl
end Go.Proofs.YthboopnmbglkjaaGreat
namespace Go.Proofs.YthboopnmbglkjaaGreat
open Go.RowKit Tryz
theorem kG{N:Nat}{w w':World}(h:Below N w w')(a:Addr)(v:Value):Below N (w.setCell a v) (w'.setCell a v):=by
 refine⟨h.os,h.tape,h.output,by simpa[World.setCell]using h.size,λk hk=>?_⟩;simp only[World.setCell,Array.getElem?_modify];rw[h.block k hk]
theorem dJ(p G q n ci bi:Nat)(yn at0:BA)(bs:List Brt)(b:Brt)(a1:OA)(c1 lo:Nat)(w:World)(hp3:w.cell? (E p 3)=some (sP G 0 n q))(hp1:w.cell? (E p 1)=some (.slice a1 bs.length c1))(hci:ci<n)(hkn:w.cell? (E G (ci*12))=some (Y yn))(hkz:w.cell? (E G (ci*12+11))=some (Y at0))(hfz:w.frozen? (E G (ci*12+11))=false)(n1:sB lo w a1 bs)(hb:bs[bi]?=some b)(hbn:b.name.size<=1048576)(hyn:yn.size<=1048576) :
  Calls prog 27 #[pP p 0,X (ci:Int),X (bi:Int)] w λe w'=>e=.returned (.agg #[Y yn,Y b.name,.slice none 0 0])/\Below w.heap.size (w.setCell (E G (ci*12+11)) (Y b.name)) w':=by
 have hbl:=Af hb;have hba:=(Below.refl _ w).alloc nL (Obj.cells #[Y ⟨#[]⟩,Y ⟨#[]⟩,.slice none 0 0] 49);have HR0:=iH (Blk.alloc w #[Y ⟨#[]⟩,Y ⟨#[]⟩,.slice none 0 0] 49);have hpw:p<w.heap.size:=World.block_lt_of_cell? w _ hp3;have hGw:G<w.heap.size:=World.block_lt_of_cell? w _ hkn;have P3:=iH ((hba.cell (p:=(E p 3)) hpw).trans hp3);have P1:=iH ((hba.cell (p:=(E p 1)) hpw).trans hp1);have N1:=iH (n1.below BrtC.holds hba nL);have HBW:=iH hba;have hs0:w.heap.size<(w.alloc (Obj.cells #[Y ⟨#[]⟩,Y ⟨#[]⟩,.slice none 0 0] 49)).heap.size:=by simp
 have KN:=iH hkn;have KZ:=iH hkz;have FZ:=iH hfz;clear hp3 hp1 n1 hkn hkz hfz;go_enter func27,ntmps27;go_upto_region 1 with fail;clear hba;generalize w.alloc (Obj.cells #[Y ⟨#[]⟩,Y ⟨#[]⟩,.slice none 0 0] 49)=w0 at *;obtain⟨b1,o1,rfl,_,_,hbc⟩:=N1.out.at hb;obtain⟨am,cm,hrg,_⟩:=lZ hbc;have hb1w:b1<w0.heap.size:=block_lt_of_cell (hrg 0 _ rfl);have HRG:=iH hrg;clear hbc hrg;refine wp_region_held_drew (S:=(λwy=>wy.cell? (E p 3)=some (sP G 0 n q)/\wy.cell? (E p 1)=some (sP b1 o1 bs.length c1)/\wy.rangeAt b1 (o1+bi*6) (bbL b am cm))) (by kernel_rfl) ⟨P3,P1,Bk HRG⟩ (λhS=>?_);replace P3:Hid (w0.drew.cell? (E p 3)=some (sP G 0 n q)):=P3;replace P1:Hid (w0.drew.cell? (E p 1)=some (sP b1 o1 bs.length c1)):=P1;replace HRG:=iH (Bk HRG);replace HBW:=iH HBW.out.drew;replace HR0:=iH HR0.out.drew;replace hs0:w.heap.size<w0.drew.heap.size:=hs0;replace hb1w:b1<w0.drew.heap.size:=hb1w;clear N1;generalize w0.drew=wd at *;refine tz 0 9 (pP p 0) ?_;refine tz 1 10 (pP p 0) ?_;refine tz 2 11 (pP p 0) ?_;refine tz 3 12 (pP p 3) ?_;refine ty 4 ⟨some 13,_,_,_,_,none⟩ (sP G 0 n q) ?_ ?_
 .intro wy hy
  have h0:=hy.1;clear hy;go_simp
 refine tz 5 14 (X (ci:Int)) ?_;refine ty 6 ⟨some 15,_,_,_,_,none⟩ (pP G (ci*12)) ?_ ?_
 .intro wy hy
  clear hy
  first|(go_simp;done)|(go_simp;omega)
 refine tz 7 16 (pP p 0) ?_;refine tz 8 17 (pP p 0) ?_;refine tz 9 18 (pP p 0) ?_;refine tz 10 19 (pP p 1) ?_;refine ty 11 ⟨some 20,_,_,_,_,none⟩ (sP b1 o1 bs.length c1) ?_ ?_
 .intro wy hy
  have h0:=hy.2.1;clear hy;go_simp
 refine tz 12 21 (X (bi:Int)) ?_;refine ty 13 ⟨some 22,_,_,_,_,none⟩ (pP b1 (o1+bi*6)) ?_ ?_
 .intro wy hy
  clear hy
  first|(go_simp;done)|(go_simp;omega)
 refine tm 14 23 b1 (o1+bi*6) (bbL b am cm) rfl (λ_ h=>h.2.2) underlying92 Cg hS ?_;refine rd1 15 ⟨some 8,_,_,_,_,none⟩ rfl (λKK hKK=>?_);go_simp;have hb1:=(Below.refl _ wd).alloc nL (Obj.cells BbA 92);have HX:=iH (Blk.alloc wd BbA 92);have hpw0:p<wd.heap.size:=by omega
 refine hKK.out _ _ ⟨(hb1.cell (p:=(E p 3)) hpw0).trans P3,(hb1.cell (p:=(E p 1)) hpw0).trans P1,Ac HRG hb1 hb1w⟩ (λhS=>?_);clear hKK KK;generalize wd.alloc (Obj.cells BbA 92)=w1 at *;refine tz 16 7 (pP G (ci*12)) ?_;refine rd1 17 ⟨none,_,_,_,_,none⟩ rfl (λKK hKK=>?_);rw[if_pos (by rfl)];refine wp_store_mid 92 (.tmp 8) (.tmp 23) (by rfl) wd.heap.size 0 (bbA b am cm) (by rfl) (by rfl) HX.out.there Cg (by simp[Value.oneCell']) ?_;have HX2:Hid (Blk wd.heap.size (bbA b am cm) 92 (w1.setCells wd.heap.size 0 (bbL b am cm))):=HX.out.setAll (bbA b am cm) rfl;have hb2:bW wd (w1.setCells wd.heap.size 0 (bbL b am cm)):=Ae nL _ _ _ hb1;refine hKK.out _ _ ⟨(hb2.cell (p:=(E p 3)) hpw0).trans P3,(hb2.cell (p:=(E p 1)) hpw0).trans P1,Ac HRG hb2 hb1w⟩ (λhS=>?_);clear hKK KK hS HX hb1;have HR2:=qBk HR0 hb2;have HBW2:=iH (HBW.out.trans (hb2.mono (by omega)));have hs2:wd.heap.size<(w1.setCells wd.heap.size 0 (bbL b am cm)).heap.size:=HX2.out.lt;clear HR0 HBW hb2 P3 P1 HRG;generalize w1.setCells wd.heap.size 0 (bbL b am cm)=w2 at *;refine td ?_;have k0:=HX2.out.cell (o:=0) rfl;go_wp2_with fail;refine(Ek b.name _ hbn).mono ?_;rintro e w3⟨rfl,hb3⟩;clear k0;have HR3:=qBk HR2 hb3;have HX3:=qBk HX2 hb3;have hbw3:=HBW2.out.trans (hb3.mono (by omega));have HBW3:=iH hbw3;have hs3:w2.heap.size<=w3.heap.size:=hb3.size;have kz:=(hbw3.cell (p:=(E G (ci*12+11))) hGw).trans KZ;have fz:=(hbw3.frozen (p:=(E G (ci*12+11))) hGw).trans FZ;clear HR2 HX2 HBW2 hb3 hbw3;go_upto_region 3 with fail;clear kz fz;have hg4:=Dt w3 (E G (ci*12+11)) (Y b.name);have HR4:=iH (HR3.out.grown hg4 (λe=>absurd (Option.some.inj e) (by show ¬w.heap.size=G;omega)));have HX4:=iH (HX3.out.grown hg4 (λe=>absurd (Option.some.inj e) (by show ¬wd.heap.size=G;omega)));have HBW4:Hid (Below w.heap.size (w.setCell (E G (ci*12+11)) (Y b.name)) (w3.setCell (E G (ci*12+11)) (Y b.name))):=kG HBW3 _ _;have hs4:w3.heap.size<=(w3.setCell (E G (ci*12+11)) (Y b.name)).heap.size:=hg4.size;have kn:(w3.setCell (E G (ci*12+11)) (Y b.name)).cell? (E G (ci*12))=some (Y yn):=by
  rw[World.cell?_setCell_other _ _ _ _ (λe=>by injection e with e1 e2;omega)];exact(HBW3.out.cell (p:=(E G (ci*12))) hGw).trans KN
 clear HR3 HX3 HBW3 hg4 KN KZ FZ;generalize w3.setCell (E G (ci*12+11)) (Y b.name)=w4 at *;refine Fk (S:=(λwy=>wy.cell? (E G (ci*12))=some (Y yn)/\wy.cell? (E wd.heap.size 0)=some (Y b.name)/\Blk w.heap.size #[Y ⟨#[]⟩,Y ⟨#[]⟩,.slice none 0 0] 49 wy)) 9 (by kernel_rfl) ⟨kn,HX4.out.cell rfl,HR4.out.drew⟩ (λhS=>?_);refine tv 0 ⟨some 30,_,_,_,_,none⟩ (pP G (ci*12)) rfl (by rfl) ?_ hS ?_
 .intro wy hy
  clear hy;go_simp
 refine tv 1 ⟨some 31,_,_,_,_,none⟩ (pP G (ci*12)) rfl (by rfl) ?_ hS ?_
 .intro wy hy
  clear hy;go_simp
 refine tv 2 ⟨some 32,_,_,_,_,none⟩ (pP G (ci*12)) rfl (by rfl) ?_ hS ?_
 .intro wy hy
  clear hy;go_simp
 refine tv 3 ⟨some 33,_,_,_,_,none⟩ (Y yn) rfl (by rfl) ?_ hS ?_
 .intro wy hy
  have h0:=hy.1;clear hy;go_simp
 refine tv 5 ⟨some 35,_,_,_,_,none⟩ (pP wd.heap.size 0) rfl (by rfl) ?_ hS ?_
 .intro wy hy
  clear hy;go_simp
 refine tv 6 ⟨some 36,_,_,_,_,none⟩ (Y b.name) rfl (by rfl) ?_ hS ?_
 .intro wy hy
  have h0:=hy.2.1;clear hy;go_simp
 replace HBW4:=iH HBW4.out.drew;have hsd:G<w4.drew.heap.size/\wd.heap.size<w4.drew.heap.size/\w.heap.size<w4.drew.heap.size:=by show G<w4.heap.size/\wd.heap.size<w4.heap.size/\w.heap.size<w4.heap.size;omega
 clear kn HX4 HR4 hs4 hs3 hs2;generalize w4.drew=w4 at *;refine ru1 4 ⟨some 34,_,_,_,_,none⟩ rfl (λKK hKK=>?_);go_simp;refine(Ek yn _ hyn).mono ?_;rintro e w5⟨rfl,hb5⟩;replace HBW4:=iH (HBW4.out.trans (hb5.mono (by omega)));have hS5:(λwy=>wy.cell? (E G (ci*12))=some (Y yn)/\wy.cell? (E wd.heap.size 0)=some (Y b.name)/\Blk w.heap.size #[Y ⟨#[]⟩,Y ⟨#[]⟩,.slice none 0 0] 49 wy) w5:=⟨(hb5.cell (p:=(E G (ci*12))) hsd.1).trans hS.1,(hb5.cell (p:=(E wd.heap.size 0)) hsd.2.1).trans hS.2.1,hS.2.2.below hb5 hsd.2.2⟩;replace hsd:G<w5.heap.size/\wd.heap.size<w5.heap.size/\w.heap.size<w5.heap.size:=by have:=hb5.size;omega
 refine hKK.out _ _ hS5 (λhS=>?_);clear hKK KK hS5 hb5;refine ru1 7 ⟨some 37,_,_,_,_,none⟩ rfl (λKK hKK=>?_);go_simp;refine(Ek b.name _ hbn).mono ?_;rintro e w6⟨rfl,hb5⟩;replace HBW4:=iH (HBW4.out.trans (hb5.mono (by omega)));have hS5:(λwy=>wy.cell? (E G (ci*12))=some (Y yn)/\wy.cell? (E wd.heap.size 0)=some (Y b.name)/\Blk w.heap.size #[Y ⟨#[]⟩,Y ⟨#[]⟩,.slice none 0 0] 49 wy) w6:=⟨(hb5.cell (p:=(E G (ci*12))) hsd.1).trans hS.1,(hb5.cell (p:=(E wd.heap.size 0)) hsd.2.1).trans hS.2.1,hS.2.2.below hb5 hsd.2.2⟩;replace hsd:G<w6.heap.size/\wd.heap.size<w6.heap.size/\w.heap.size<w6.heap.size:=by have:=hb5.size;omega
 refine hKK.out _ _ hS5 (λhS=>?_);clear hKK KK hS5 hb5;refine tv 8 ⟨some 38,_,_,_,_,none⟩ (.agg #[Y yn,Y b.name,.slice none 0 0]) rfl (by rfl) ?_ hS ?_
 .intro wy hy
  clear hy;go_simp
 refine Gd (rs:=[9]) (by kernel_rfl) (by simp) (AllReadyU.last (o:=⟨none,_,_,_,_,none⟩) rfl (λKK hKK=>?_));rw[if_pos (by rfl)];refine wp_store_mid 49 (.tmp 6) (.tmp 38) (by rfl) w.heap.size 0 #[Y yn,Y b.name,.slice none 0 0] (by rfl) (by rfl) hS.2.2.there Hp (by simp[Value.oneCell']) ?_;have HX7:Hid (Blk w.heap.size #[Y yn,Y b.name,.slice none 0 0] 49 (w6.setCells w.heap.size 0 [Y yn,Y b.name,.slice none 0 0])):=hS.2.2.setAll #[Y yn,Y b.name,.slice none 0 0] rfl;have HB7:Hid (Below w.heap.size (w.setCell (E G (ci*12+11)) (Y b.name)) (w6.setCells w.heap.size 0 [Y yn,Y b.name,.slice none 0 0])):=Ae nL _ _ _ HBW4;refine hKK.out _ _ (Ji (by kernel_rfl) ?_ _);clear hKK KK hS HBW4 hsd;generalize w6.setCells w.heap.size 0 [Y yn,Y b.name,.slice none 0 0]=w7 at *;go_wp2_with fail;exact bodyPost_ret (Ay rfl _ _ w.heap.size [Y yn,Y b.name,.slice none 0 0] _ rfl HX7.out.rangeA underlying49 rfl Hp) rfl ⟨rfl,HB7⟩
end Go.Proofs.YthboopnmbglkjaaGreat
