import Derived.Shelf.Spec.SlicesInsert
import Derived.Lib.AppendZerosOnto
import Derived.Laws.NewBlocks
import Derived.Deep.RegionLaw
import Derived.Test.YthboopnmbglkjaaGreatJ39
set_option maxHeartbeats 2000000
set_option maxRecDepth 100000
namespace Go.Proofs.YthboopnmbglkjaaGreat
open Go.RowKit Go.Lib Go.Shelf Tryz
theorem Vv{P:Program}(w:World)(dT sT ty elem:TypeId)(k:Nat)(b o dLen dCap:Nat)(a:Addr)(sLen sCap:Nat)(cs:List Value)(hu:P.underlying dT=some (.slice elem))(hs:(P.info? elem).map (·.size)=some k)(hn:cs.length=Nat.min sLen dLen*k)(hsrc:∀j v,cs[j]?=some v->w.cell? (a.add j)=some v)(hc:∀j,j<cs.length->(w.cell? (E b (o+j))).isSome=true)(hf:∀j,j<cs.length->w.frozen? (E b (o+j))=false)(h1:∀v∈cs,v.oneCell'=true) :
  (Builtin.copy_ #[dT,sT] ty #[sP b o dLen dCap,.slice (some a) sLen sCap]).run P w=.ok (goInt (Nat.min sLen dLen)) (w.setCells b o cs):=by
 have hl:=run_loadCells_list (P:=P) w a cs hsrc;have hst:=run_storeCells_cells (P:=P) b o cs 0 w (by simpa using hc) (by simpa using hf) h1
 cases hq:P.info? elem with
 |none=>simp[hq]at hs
 |some i =>
  have hi:i.size=k:=by simpa[hq]using hs
  simp[Builtin.copy_,run_underlying hu,Builtin.lenOf,Builtin.firstCells,sizeOf,typeInfo,hq,hi,<-hn,hl,hst]
theorem bI:(prog.info? 225).map (·.size)=some 2:=by kernel_rfl
theorem DA:Po 225 2:=⟨_,underlying225,rfl,bI⟩
theorem tB:∃i,prog.info? 225=some i/\i.zero=some (.agg #[X 0,.nilFunc])/\i.size=2/\i.bytes=16:=by
 have h:(prog.info? 225).map (λi=>(i.zero,i.size,i.bytes))=some (some (.agg #[X 0,.nilFunc]),2,16):=by kernel_rfl
 cases hq:prog.info? 225 with
 |none=>rw[hq]at h;cases h
 |some i =>
  rw[hq]at h;simp at h;exact⟨i,rfl,h.1,h.2.1,h.2.2⟩
theorem jI(b vb:Nat)(cs vs:List Value)(w:World)(hcl:cs.length=14)(hvl:vs.length=2)(hcs:∀j v,cs[j]?=some v->w.cell? (E b j)=some v)(hvs:∀j v,vs[j]?=some v->w.cell? (E vb j)=some v)(h1c:∀v∈cs,v.oneCell'=true)(h1v:∀v∈vs,v.oneCell'=true) :
  Calls prog 162 #[sP b 0 7 7,X 0,sP vb 0 1 1] w λe w'=>∃G,e=.returned (sP w.heap.size 0 8 G)/\w'.rangeAt w.heap.size 0 (vs++cs)/\w.heap.size<w'.heap.size/\bW w w':=by
 obtain⟨i0,hi0,hz0,hzs,hzb⟩:=tB;have hsz:=bI;have hbw:b<w.heap.size:=block_lt_of_cell (hcs 0 _ (gE (by omega)));have hvw:vb<w.heap.size:=block_lt_of_cell (hvs 0 _ (gE (by omega)));have hold:(Builtin.firstCells i0.size 0 (sP b 0 0 7)).run prog w.drew=.ok ([]:List Value).toArray w.drew:=by
  rw[hzs];exact run_firstCells_some w.drew 2 0 (E b 0) 0 7 [] (by simp) (λj v hj=>by simp at hj)
 have hrz:∀ty,(Builtin.append_ #[198,3] ty #[sP b 0 0 7,X 8]).run prog w =
   .ok (sP w.heap.size 0 8 (grownCap w 8 7 225)) (w.drew.alloc (.cells (([]:List Value).toArray++Builtin.zeroCells (Value.agg #[X 0,.nilFunc]).cells 8++Builtin.zeroCells (Value.agg #[X 0,.nilFunc]).cells (grownCap w 8 7 225-8)) 225)):=λty=>by
  exact Lib.run_append_grow_zeros w 198 3 ty 225 i0 _ .i64 .i64 underlying198 underlying3 hi0 hz0 (O b 0) 0 7 [] hold 8 (by omega) (by omega) (by omega) (by omega) (by rw[hzb];omega) (by rw[hzb];exact growslice_fits (by omega) (by omega))
 obtain⟨G,hG⟩:∃G,G=grownCap w 8 7 225:=⟨_,rfl⟩;obtain⟨ROW,hROW⟩:∃ROW:Array Value,ROW=([]:List Value).toArray++Builtin.zeroCells (Value.agg #[X 0,.nilFunc]).cells 8++Builtin.zeroCells (Value.agg #[X 0,.nilFunc]).cells (G-8):=⟨_,rfl⟩;rw[<-hG]at hrz;rw[<-hROW]at hrz;have hRl:16<=ROW.size:=by
  rw[hROW];simp[Builtin.zeroCells,Value.cells]
 obtain⟨W1,hW1⟩:∃W1,W1=w.drew.alloc (.cells ROW 225):=⟨_,rfl⟩;rw[<-hW1]at hrz;have hN:∀j,j<16->(W1.cell? (E w.heap.size j)).isSome=true:=λj hj=>by
  rw[hW1,World.cell?_alloc_at (w:=w.drew) ROW _ w.heap.size j rfl,Array.getElem?_eq_getElem (by omega)];rfl
 have hNf:∀j,W1.frozen? (E w.heap.size j)=false:=λj=>by rw[hW1];exact World.frozen?_alloc_at (w:=w.drew) ROW _ w.heap.size j rfl
 have hOb:∀j v,w.cell? (E b j)=some v->W1.cell? (E b j)=some v:=λj v h=>by rw[hW1,World.cell?_alloc_past (w:=w.drew) _ b j hbw];exact h
 have hOv:∀j v,w.cell? (E vb j)=some v->W1.cell? (E vb j)=some v:=λj v h=>by rw[hW1,World.cell?_alloc_past (w:=w.drew) _ vb j hvw];exact h
 have hcpA:∀(W:World),(∀x,W.cell? x=W1.cell? x)->(∀x,W.frozen? x=W1.frozen? x)->∀ty dc,(Builtin.copy_ #[198,198] ty #[sP w.heap.size 0 8 dc,sP vb 0 1 1]).run prog W=.ok (goInt 1) (W.setCells w.heap.size 0 vs):=λW hWc hWf ty dc =>
  Vv W _ _ ty 225 2 w.heap.size 0 8 dc (E vb 0) 1 1 vs underlying198 hsz (by rw[hvl];rfl)
   (λj v hj=>by rw[Addr.add_lit,hWc];exact hOv _ v (by simpa using hvs j v hj))
   (λj hj=>by rw[hWc];exact hN _ (by omega)) (λj hj=>by rw[hWf];exact hNf _) h1v
 have hbN:b≠w.heap.size:=by omega
 have hcpB:∀(W:World),(∀x,W.cell? x=(W1.setCells w.heap.size 0 vs).cell? x)->(∀x,W.frozen? x=(W1.setCells w.heap.size 0 vs).frozen? x)->∀ty dc sc,(Builtin.copy_ #[198,198] ty #[sP w.heap.size 2 7 dc,sP b 0 7 sc]).run prog W=.ok (goInt 7) (W.setCells w.heap.size 2 cs):=λW hWc hWf ty dc sc =>
  Vv W _ _ ty 225 2 w.heap.size 2 7 dc (E b 0) 7 sc cs underlying198 hsz (by rw[hcl];rfl)
   (λj v hj=>by
    rw[Addr.add_lit,hWc,World.cell?_setCells_out _ _ _ _ _ (λh _=>absurd h hbN)]
    exact hOb _ v (by simpa using hcs j v hj))
   (λj hj=>by rw[hWc];exact isSome_setCells _ _ _ _ (λt ht=>hN _ (by omega)) _ (hN _ (by omega)))
   (λj hj=>by rw[hWf,World.frozen?_setCells];exact hNf _) h1c
 have hGn:8<=G:=by rw[hG];exact grownCap_ge w _ _ _
 have hG63:G<=9223372036854775807:=by
  have:=grownCap_le_maxLen w 8 7 225 (by unfold maxLen;omega);rw[<-hG]at this;unfold maxLen at this;omega
 subst hW1;have hE1:∀x,((w.alloc (.cells ROW 225)).drew).cell? x=(w.drew.alloc (.cells ROW 225)).cell? x:=λx=>rfl
 have hE2:∀x,((w.alloc (.cells ROW 225)).drew).frozen? x=(w.drew.alloc (.cells ROW 225)).frozen? x:=λx=>rfl
 have hF1:∀x,(((w.alloc (.cells ROW 225)).drew.setCells w.heap.size 0 vs).drew).cell? x=((w.drew.alloc (.cells ROW 225)).setCells w.heap.size 0 vs).cell? x:=λx=>rfl
 have hF2:∀x,(((w.alloc (.cells ROW 225)).drew.setCells w.heap.size 0 vs).drew).frozen? x=((w.drew.alloc (.cells ROW 225)).setCells w.heap.size 0 vs).frozen? x:=λx=>rfl
 have mixed:prog.follows Departure.mixedOrders=true:=by kernel_rfl
 have hw1:IntKind.i64.wrap 1=1:=by rw[IntKind.wrap_i64];omega
 have hG1:¬(G=1):=by omega
 clear hold hG hROW;go_enter func162,ntmps162
 go_wp2_with(first
  |(at_builtin;refine Lib.wpList_append_run _ rfl _ _ _ _ rfl _ _ rfl rfl _ _ (hrz _) ?_)
  |(at_builtin;refine wpList_copy_runI _ rfl _ _ 198 198 rfl _ _ rfl rfl (hcpA _ hE1 hE2 _ _) ?_))
 go_region_law_o (refine step_copy_runI rfl _ _ 198 198 rfl (sP w.heap.size 2 7 (G-1)) (sP b 0 7 7) (by simp[Act.eval,Act.put]) (by simp[Act.eval,Act.put]) (hcpB _ hF1 hF2 3 (G-1) 7) ?_)
 go_wp2
 go_ret;have hbl:bW w ((((w.alloc (.cells ROW 225)).drew.setCells w.heap.size 0 vs).drew).setCells w.heap.size 2 cs):=Ae nL _ _ _ (Ae nL _ _ _ ((Below.refl _ w).alloc nL _).drew).drew;refine⟨G,rfl,?_,?_,hbl⟩
 .have hR1:(((w.alloc (.cells ROW 225)).drew.setCells w.heap.size 0 vs).drew).rangeAt w.heap.size 0 vs:=World.rangeAt_setCells_same _ w.heap.size 0 vs (λj hj=>⟨hN _ (by omega),hNf _⟩)
  have hR2:=World.rangeAt_setCells_same (((w.alloc (.cells ROW 225)).drew.setCells w.heap.size 0 vs).drew) w.heap.size 2 cs (λj hj=>⟨by rw[hF1];exact isSome_setCells _ _ _ _ (λt ht=>hN _ (by omega)) _ (hN _ (by omega)),by rw[hF2,World.frozen?_setCells];exact hNf _⟩);intro j v hj;rw[List.getElem?_append]at hj
  split at hj
  .rename_i h
   rw[World.cell?_setCells_out _ _ _ _ _ (λ_ _=>Or.inl (by show 0+j<2;omega))];exact hR1 j v hj
  have:=hR2 (j-2) v (by rw[hvl]at hj;exact hj)
  rwa [show 2+(j-2)=0+j by omega]at this
 exact lL (by simp) (Ae (B:=0) (zL) _ _ _ (Ae (B:=0) (zL) _ _ _ (Below.refl _ ((w.alloc (.cells ROW 225)).drew))).drew).size
end Go.Proofs.YthboopnmbglkjaaGreat
namespace Go.Proofs.YthboopnmbglkjaaGreat
open Go.RowKit Go.WideMaps Go.Maps Tryz
def Jp:List (Int×Nat×Bool)->Int
 |[]=>0
 |r::rest=>if r.2.2=true then r.1 else Jp rest
theorem Wc:∀(rs:List (Int×Nat×Bool))(k:Nat)(r:Int×Nat×Bool),rs[k]?=some r->r.2.2=true->(∀(j:Nat) q,j<k->rs[j]?=some q->q.2.2=false)->Jp rs=r.1
 |[],k,r,h,_,_=>by simp at h
 |a::rest,0,r,h,ht,_=>by
  simp at h;subst h;simp[Jp,ht]
 |a::rest,k+1,r,h,ht,hf=>by
  have h0:=hf 0 a (by omega) rfl;simp only[Jp,h0];rw[if_neg (by simp)];exact Wc rest k r (by simpa using h) ht (λj q hj hq=>hf (j+1) q (by omega) (by simpa using hq))
theorem Sk:∀(rs:List (Int×Nat×Bool)),(∀(j:Nat) q,j<rs.length->rs[j]?=some q->q.2.2=false)->Jp rs=0
 |[],_=>rfl
 |a::rest,hf=>by
  have h0:=hf 0 a (by simp) rfl;simp only[Jp,h0];rw[if_neg (by simp)];exact Sk rest (λj q hj hq=>hf (j+1) q (by simp;omega) (by simpa using hq))
def yJ(rb:Nat)(rs:List (Int×Nat×Bool))(w:World):Prop:=∀(k:Nat) r,rs[k]?=some r->w.cell? (E rb (k*2))=some (X r.1)/\w.cell? (E rb (k*2+1))=some (.func (.func r.2.1) #[] #[])
theorem Iw{α:Type}{l:List α}{k:Nat}{a:α}(h:l[k]?=some a):l≠[]:=λe=>by rw[e]at h;cases h
theorem Jf{x:Flt}(hv:Bb x=true){k:Nat}{c:Cpy}(h:x.copies[k]?=some c):x.services≠[]:=by
 obtain⟨_,_,_,_,_,hs⟩:=Bh hv;obtain⟨j,hj⟩:=hs k c h;intro e;rw[e]at hj;cases hj
theorem dR(lo p m1 m2 m3 m4 ci bi:Nat)(x:Flt)(a1:OA)(c1:Nat)(a2:OA)(c2:Nat)(a3:OA)(c3:Nat)(y:Cpy)(a7:OA)(c7:Nat)(b:Brt)(am:OA)(cm:Nat)(u1 u2 u3:Int)(rs:List (Int×Nat×Bool))(rb rc n:Nat)(w:World)(hK:SpotK w lo ci bi x a1 a3 y a7 b am)(hrl:rs.length<=8)(hn:n<=7999900)(hsay:∀W,SpotK W lo ci bi x a1 a3 y a7 b am->∀(k:Nat) r,rs[k]?=some r->nE r.2.1 r.2.2 W p m1 m2 m3 m4 ci bi x a1 c1 a2 c2 a3 c3 y a7 c7 b am cm u1 u2 u3)(heg:∀(k:Nat) r,rs[k]?=some r->∀args w,(callFunc r.2.1 args).run prog w=.ok (.enter r.2.1 args) w)(hF:FoundM p m1 m2 m3 m4 n x a1 c1 a2 c2 a3 c3 w)(hR:yJ rb rs w)(hrb:rb<w.heap.size)(hrm:rb≠m4) :
  Calls prog 145 #[sP rb 0 rs.length rc,.agg (An p ci bi y a7 c7 b am cm u1 u2 u3)] w λe w'=>e=.returned (X (Jp rs))/\MemoAt m4 (n+8) x.berths w'/\But m4 w.heap.size w w':=by
 have HK:=iH hK;obtain⟨n1,n3,n7,nm,hv,hy,hb⟩:=hK;have e1:=Iw hb;have e2:=Jf hv hy;have e3:=Iw hy;have hm4w:m4<w.heap.size:=hF.memo.lt;have HF:=iH hF;have HR:=iH hR;have HSAY:=iH hsay;have HEG:=iH heg;have HE1:=iH e1;have HE2:=iH e2;have HE3:=iH e3;clear n1 n3 n7 nm hv hy hb hF hR hsay heg e1 e2 e3;go_enter func145,ntmps145;go_wp2_with fail;have hb0:=(Below.refl _ w).alloc nL (Obj.cells (An p ci bi y a7 c7 b am cm u1 u2 u3) 201);have HX0:=iH (Blk.alloc w (An p ci bi y a7 c7 b am cm u1 u2 u3) 201);have HF0:=iH (HF.out.below hb0);have HB0:Hid (But m4 w.heap.size w (w.alloc (Obj.cells (An p ci bi y a7 c7 b am cm u1 u2 u3) 201))):=But.of_below hb0;have hs0:w.heap.size<(w.alloc (Obj.cells (An p ci bi y a7 c7 b am cm u1 u2 u3) 201)).heap.size:=by simp
 generalize w.alloc (Obj.cells (An p ci bi y a7 c7 b am cm u1 u2 u3) 201)=w0 at *;clear hb0;go_loopw [9] (λi wr=>∃k:Nat,k<=rs.length/\i=X k/\w.heap.size<wr.heap.size/\Hid (∀(j:Nat) q,j<k->rs[j]?=some q->q.2.2=false)/\Hid (FoundM p m1 m2 m3 m4 (n+k) x a1 c1 a2 c2 a3 c3 wr)/\Hid (Blk w.heap.size (An p ci bi y a7 c7 b am cm u1 u2 u3) 201 wr)/\Hid (But m4 w.heap.size w wr)) (λi _=>rs.length-(intOf i).toNat)
 case atStart=>exact⟨0,zL,rfl,hs0,λj q h=>by omega,HF0,HX0,HB0⟩
 clear HF0 HX0 HB0 hs0;obtain⟨k,hk,rfl,hs1,hN,hF1,hX1,hB1⟩:=hrel;by_cases hlt:k<rs.length
 .obtain⟨r,hr⟩:=gXe hlt
  obtain⟨q0,q1⟩:=HR.out k r hr;have c0:wr.cell? (E rb (k*2))=some (X r.1):=(hB1.out.cell (a:=(E rb (k*2))) hrb hrm).trans q0;have c1':wr.cell? (E rb (k*2+1))=some (.func (.func r.2.1) #[] #[]):=(hB1.out.cell (a:=(E rb (k*2+1))) hrb hrm).trans q1;have HSK:=iH (λW hk=>HSAY.out W hk k r hr);have heg:=HEG.out k r hr;have HRR:=iH hr;obtain⟨cd,fid,tr⟩:=r;simp only at c0 c1' HSK heg;clear q0 q1 hr;have hza:=Blk.alloc wr #[X 0,.nilFunc] 225;have HTS:Hid ((wr.alloc (Obj.cells #[X 0,.nilFunc] 225)).there wr.heap.size 0 2):=hza.there;obtain⟨w4,HW4⟩:∃w4,Hid (w4=(wr.alloc (Obj.cells #[X 0,.nilFunc] 225)).setCells wr.heap.size 0 [X cd,.func (.func fid) #[] #[]]):=⟨_,rfl⟩;have HK4:Hid (Blk wr.heap.size #[X cd,.func (.func fid) #[] #[]] 225 w4):=by
   show Blk _ _ _ _
   rw[HW4.out];exact hza.setAll #[X cd,.func (.func fid) #[] #[]] rfl
  have hbx:bW wr w4:=by
   rw[HW4.out];exact Ae nL _ _ _ ((Below.refl _ wr).alloc nL _)
  have HF4:=iH (hF1.out.below hbx);have HX4:=qBk hX1 hbx;have HB4:Hid (But m4 w.heap.size w w4):=hB1.out.trans (But.of_below (hbx.mono (lE hs1)));have hs4:wr.heap.size<w4.heap.size:=HK4.out.lt;clear hza;go_upto_region 4 with(first|(refine Ai rfl 225 _ _ rfl wr.heap.size 0 #[X cd,.func (.func fid) #[] #[]] rfl rfl HTS bI (by simp[Value.oneCell']) w4 HW4 ?_));have k1:w4.cell? (E wr.heap.size 1)=some (.func (.func fid) #[] #[]):=HK4.out.cell rfl;clear hbx hF1 hX1 hB1 c0 c1';go_wp2_with(first|(refine wpList_load_mid rfl 201 _ rfl w.heap.size 0 (by first|rfl|(simp[go_sem];done)) (An p ci bi y a7 c7 b am cm u1 u2 u3).toList _ HX4.out.rangeA underlying201 rfl Es ?_));refine(HSK w4 (HK.out.keep (Gv HB4 HF.out.memo HF4.out.memo)) (n+k) w4 (by omega) (Below.refl _ _) HF4).mono ?_;rintro e w5⟨rfl,hm5,hb5⟩;have HM5:=iH hm5;have HF5:Hid (FoundM p m1 m2 m3 m4 (n+(k+1)) x a1 c1 a2 c2 a3 c3 w5):=HF4.out.but hb5 hm5 HE1 HE2 HE3;have HB5:Hid (But m4 w.heap.size w w5):=HB4.out.trans (hb5.mono (by omega));have HX5:Hid (Blk w.heap.size (An p ci bi y a7 c7 b am cm u1 u2 u3) 201 w5):=(hb5.block w.heap.size (by omega) (by omega)).trans HX4;have k0:w5.cell? (E wr.heap.size 0)=some (X cd):=(hb5.cell (a:=(E wr.heap.size 0)) hs4 (by show wr.heap.size≠m4;omega)).trans (HK4.out.cell rfl);have hs5:w.heap.size<w5.heap.size:=by have:=hb5.size;omega
  clear hm5 hb5 k1 heg HSK
  cases tr with
  |true =>
   have HE:=iH (Wc rs k _ HRR rfl hN.out)
   go_wp2
   go_ret;exact⟨Al HE.out.symm,HM5.out.mono (by omega),HB5⟩
  | false =>
   have HN2:Hid (∀(j:Nat) q,j<k+1->rs[j]?=some q->q.2.2=false):=λj q hj hq=>by
    by_cases e:j=k
    .subst e
     have:=HRR.out.symm.trans hq;cases this
     rfl
    exact hN.out j q (by omega) hq
   go_wp2
   go_roundw
   case rel=>exact⟨k+1,by omega,by go_num,hs5,HN2,HF5,HX5,HB5⟩
   simp[intOf];omega
 have hke:k=rs.length:=by omega
 subst hke;have HE:=iH (Sk rs hN.out)
 go_wp2
 go_ret;exact⟨Al HE.out.symm,hF1.out.memo.mono (by omega),hB1.out⟩
abbrev yL:List Value:=[X 2,.func (.func 180) #[] #[],X 3,.func (.func 181) #[] #[],X 4,.func (.func 182) #[] #[],X 5,.func (.func 183) #[] #[],X 6,.func (.func 184) #[] #[],X 7,.func (.func 185) #[] #[],X 8,.func (.func 186) #[] #[]]
abbrev Wf:List Value:=[X 1,.func (.func 164) #[] #[],X 2,.func (.func 180) #[] #[],X 3,.func (.func 181) #[] #[],X 4,.func (.func 182) #[] #[],X 5,.func (.func 183) #[] #[],X 6,.func (.func 184) #[] #[],X 7,.func (.func 185) #[] #[],X 8,.func (.func 186) #[] #[]]
theorem tW(w:World) :
  Calls prog 163 #[] w λe w'=>e=.returned (sP w.heap.size 0 7 7)/\w'.rangeAt w.heap.size 0 yL/\w.heap.size<w'.heap.size/\bW w w':=by
 go_enter func163,ntmps163
 go_wp2
 go_ret;refine⟨rfl,?_,?_,?_⟩
 .exact Aa (by simp) (Aa (by simp) (Aa (by simp) (Aa (by simp) (Aa (by simp) (Aa (by simp) (Aa (by simp) (Aa (by simp) (Aa (by simp) (Aa (by simp) (Aa (by simp) (Aa (by simp) (Aa (by simp) (Aa (by simp) (Am _ _ _))))))))))))))
 .simp
 go_grown
theorem sI(w:World) :
  Calls prog 143 #[] w λe w'=>∃g G,e=.returned (sP g 0 8 G)/\w'.rangeAt g 0 Wf/\w.heap.size<=g/\g<w'.heap.size/\bW w w':=by
 go_enter func143,ntmps143;go_wp2_with fail;refine(tW _).mono ?_;rintro e w1⟨rfl,hr,hs,hb⟩;have HR:=iH hr;have HB:=iH hb;clear hr hb;go_wp2_with fail;have hb2:=(Below.refl _ w1).alloc nL (Obj.cells #[X 1,.func (.func 164) #[] #[]] 225);refine(jI w.heap.size w1.heap.size yL [X 1,.func (.func 164) #[] #[]] _ rfl rfl ?_ ?_ ?_ ?_).mono ?_
 .intro j v hj
  rw[hb2.cell (p:=(E w.heap.size j)) hs];have:=HR.out j v hj
  rwa [Nat.zero_add]at this
 .have hq:(w1.alloc (Obj.cells #[X 1,.func (.func 164) #[] #[]] 225)).rangeAt w1.heap.size 0 [X 1,.func (.func 164) #[] #[]]:=Aa (by simp) (Aa (by simp) (Am _ _ _))
  intro j v hj;have:=hq j v hj
  rwa [Nat.zero_add]at this
 .intro v hv
  simp at hv;rcases hv with rfl|rfl|rfl|rfl|rfl|rfl|rfl|rfl|rfl|rfl|rfl|rfl|rfl|rfl<;>rfl
 .intro v hv
  simp at hv;rcases hv with rfl|rfl<;>rfl
 rintro e w3⟨G,rfl,hr3,hs3,hb3⟩;have HB3:=iH (HB.out.trans ((hb2.trans (hb3.mono (by simp))).mono HB.out.size));have hq:(w1.alloc (Obj.cells #[X 1,.func (.func 164) #[] #[]] 225)).heap.size=w1.heap.size+1:=by simp
 rw[hq]at hr3 hs3;have HR3:=iH hr3;have hsz:w.heap.size<=w1.heap.size+1:=by have:=HB.out.size;omega
 clear hr3 hb3 hb2
 go_wp2
 go_ret;exact⟨_,G,rfl,HR3,hsz,hs3,HB3⟩
def lV(x:Flt)(ci:Nat)(y:Cpy)(b:Brt)(u1 u2 u3:Int):List (Int×Nat×Bool):=[(2,180,Ir y b),(3,181,!Ch y.select b.marks b.zone),(4,182,Jr x ci y b),(5,183,Ib x ci y b),(6,184,decide (10<=u1)),(7,185,decide (b.room<u2+y.room)),(8,186,decide (b.hold<u3+y.hold))]
def Qg(x:Flt)(ci:Nat)(y:Cpy)(b:Brt)(u1 u2 u3:Int):List (Int×Nat×Bool):=(1,164,b.closed)::lV x ci y b u1 u2 u3
theorem iQ{x:Flt}{ci:Nat}{y:Cpy}{b:Brt}{u1 u2 u3:Int}(h1:u1=Bg x ci b.name x.copies.length)(h2:u2=Bl x ci b.name x.copies.length)(h3:u3=Ca x ci b.name x.copies.length):Jp (Qg x ci y b u1 u2 u3)=Cs x ci y b false:=by
 unfold Qg lV Cs;simp only[Jp,decide_eq_true_eq,Bool.not_eq_true',Bool.not_false,Bool.and_true];rw[h1,h2,h3]
theorem Qw{f:Nat}{t:Bool}(W:World)(_lo p m1 m2 m3 m4 ci bi:Nat)(x:Flt)(a1:OA)(c1:Nat)(a2:OA)(c2:Nat)(a3:OA)(c3:Nat)(y:Cpy)(a7:OA)(c7:Nat)(b:Brt)(am:OA)(cm:Nat)(u1 u2 u3:Int)(h:∀w,Calls prog f #[.agg (An p ci bi y a7 c7 b am cm u1 u2 u3)] w λe w'=>e=.returned (.bool t)/\bW w w'):nE f t W p m1 m2 m3 m4 ci bi x a1 c1 a2 c2 a3 c3 y a7 c7 b am cm u1 u2 u3 :=
 λ_ w _ _ hF=>(h w).mono (λ_ _ ⟨he,hb⟩=>⟨he,(hF.memo.below hb hF.memo.lt).mono (Nat.le_succ _),But.of_below hb⟩)
theorem rB(W:World)(lo p m1 m2 m3 m4 ci bi:Nat)(x:Flt)(a1:OA)(c1:Nat)(a2:OA)(c2:Nat)(a3:OA)(c3:Nat)(y:Cpy)(a7:OA)(c7:Nat)(b:Brt)(am:OA)(cm:Nat)(u1 u2 u3:Int)(hK:SpotK W lo ci bi x a1 a3 y a7 b am)(h1:0<=u2/\u2<=60000)(h2:0<=u3/\u3<=60000):∀r,r∈Qg x ci y b u1 u2 u3->nE r.2.1 r.2.2 W p m1 m2 m3 m4 ci bi x a1 c1 a2 c2 a3 c3 y a7 c7 b am cm u1 u2 u3:=by
 have hk:=hK;obtain⟨_,n3,_,_,hv,hy,_⟩:=hk;obtain⟨_,_,_,_,_,hc⟩:=n3.at hy;obtain⟨a8,c8,q0,q1,q2,q3,q4,q5,q6,q7,q8,q9,q10,q11,z0,z1,z6,z9,z10,z11,z7⟩:=hc;have hr:=((Au hv).2.2.2 ci y hy).1;have hh:=((Dw hv).1 ci y hy).1;intro r hr';unfold Qg lV at hr';simp only[List.mem_cons,List.not_mem_nil,or_false]at hr';rcases hr' with rfl|rfl|rfl|rfl|rfl|rfl|rfl|rfl
 .exact Qw W lo p m1 m2 m3 m4 ci bi x a1 c1 a2 c2 a3 c3 y a7 c7 b am cm u1 u2 u3 (kB p ci bi y a7 c7 b am cm u1 u2 u3)
 .exact Qw W lo p m1 m2 m3 m4 ci bi x a1 c1 a2 c2 a3 c3 y a7 c7 b am cm u1 u2 u3 (Xx p ci bi y a7 c7 b am cm u1 u2 u3)
 .exact jZ W lo p m1 m2 m3 m4 ci bi x a1 c1 a2 c2 a3 c3 y a7 c7 b am cm u1 u2 u3 hK z6
 .exact dH W lo p m1 m2 m3 m4 ci bi x a1 c1 a2 c2 a3 c3 y a7 c7 b am cm u1 u2 u3 hK
 .exact xA W lo p m1 m2 m3 m4 ci bi x a1 c1 a2 c2 a3 c3 y a7 c7 b am cm u1 u2 u3 hK
 .exact Qw W lo p m1 m2 m3 m4 ci bi x a1 c1 a2 c2 a3 c3 y a7 c7 b am cm u1 u2 u3 (sQ p ci bi y a7 c7 b am cm u1 u2 u3)
 .exact Qw W lo p m1 m2 m3 m4 ci bi x a1 c1 a2 c2 a3 c3 y a7 c7 b am cm u1 u2 u3 (λw=>aX p ci bi y a7 c7 b am cm u1 u2 u3 w h1.1 h1.2 hr.1 hr.2)
 exact Qw W lo p m1 m2 m3 m4 ci bi x a1 c1 a2 c2 a3 c3 y a7 c7 b am cm u1 u2 u3 (λw=>cL p ci bi y a7 c7 b am cm u1 u2 u3 w h2.1 h2.2 hh.1 hh.2)
theorem eN(x:Flt)(ci:Nat)(y:Cpy)(b:Brt)(u1 u2 u3:Int):∀r,r∈Qg x ci y b u1 u2 u3->∀args w,(callFunc r.2.1 args).run prog w=.ok (.enter r.2.1 args) w:=by
 intro r hr';unfold Qg lV at hr';simp only[List.mem_cons,List.not_mem_nil,or_false]at hr';rcases hr' with rfl|rfl|rfl|rfl|rfl|rfl|rfl|rfl
 .exact enters_of func164 (by kernel_rfl) rfl
 .exact enters_of func180 (by kernel_rfl) rfl
 .exact enters_of func181 (by kernel_rfl) rfl
 .exact enters_of func182 (by kernel_rfl) rfl
 .exact enters_of func183 (by kernel_rfl) rfl
 .exact enters_of func184 (by kernel_rfl) rfl
 .exact enters_of func185 (by kernel_rfl) rfl
 exact enters_of func186 (by kernel_rfl) rfl
theorem kJ{rb:Nat}{w:World}(x:Flt)(ci:Nat)(y:Cpy)(b:Brt)(u1 u2 u3:Int)(h:w.rangeAt rb 0 Wf):yJ rb (Qg x ci y b u1 u2 u3) w:=by
 intro k r hk;have hk8:k<8:=(List.getElem?_eq_some_iff.1 hk).1;have hc:k=0\/k=1\/k=2\/k=3\/k=4\/k=5\/k=6\/k=7:=by omega
 rcases hc with rfl|rfl|rfl|rfl|rfl|rfl|rfl|rfl
 .cases hk
  exact⟨by simpa using h 0 _ rfl,by simpa using h 1 _ rfl⟩
 .cases hk
  exact⟨by simpa using h 2 _ rfl,by simpa using h 3 _ rfl⟩
 .cases hk
  exact⟨by simpa using h 4 _ rfl,by simpa using h 5 _ rfl⟩
 .cases hk
  exact⟨by simpa using h 6 _ rfl,by simpa using h 7 _ rfl⟩
 .cases hk
  exact⟨by simpa using h 8 _ rfl,by simpa using h 9 _ rfl⟩
 .cases hk
  exact⟨by simpa using h 10 _ rfl,by simpa using h 11 _ rfl⟩
 .cases hk
  exact⟨by simpa using h 12 _ rfl,by simpa using h 13 _ rfl⟩
 cases hk
 exact⟨by simpa using h 14 _ rfl,by simpa using h 15 _ rfl⟩
theorem Ze(p m4 ci bi n:Nat)(y:Cpy)(a7:OA)(c7:Nat)(b:Brt)(am:OA)(cm:Nat)(u1 u2 u3:Int)(bs:List Brt)(lo:Nat)(W w:World)(hW:Keeps lo W w)(p7:w.cell? (E p 7)=some (.map (some m4)))(hp:p≠m4)(hM:MemoAt m4 n bs w)(hb:bs[bi]?=some b)(hbi:bi<=1048576)(hn:n<=8000000)(nm:sX lo W am b.marks)(n7:sK lo W a7 y.likes)(hml:b.marks.length<=1000)(hz:b.zone.size<=1000)(hll:y.likes.length<=5)(hlw:∀(k:Nat) (l:Lik),y.likes[k]?=some l->-9<=l.weight/\l.weight<=9) :
  Calls prog 165 #[.slice a7 y.likes.length c7,.func (.func 166) #[.agg (An p ci bi y a7 c7 b am cm u1 u2 u3)] #[]] w λe w'=>e=.returned (X (Ct (λt=>Ch t b.marks b.zone) y.likes y.likes.length))/\MemoAt m4 (n+5) bs w'/\But m4 w.heap.size w w':=by
 obtain⟨n0,D,hn0,o4,hm⟩:=hM;have O4:=iH o4;have HM:=iH hm;have HB:=iH hb;have NM:=iH nm;have N7:=iH n7;have HLW:=iH hlw;have HW:=iH hW;have hpl:p<w.heap.size:=block_lt_of_cell p7;have hm4l:m4<w.heap.size:=o4.lt;have P7:=iH p7;clear o4 hm hb nm n7 hlw p7 hW;obtain⟨SP,hSP⟩:∃SP,SP=An p ci bi y a7 c7 b am cm u1 u2 u3:=⟨_,rfl⟩;have HSP:=iH hSP;rw[<-hSP];clear hSP;go_enter func165,ntmps165
 go_wp2
 go_loopw [5,10] (λs i wr=>∃(k:Nat)(L:Int)(n':Nat)(D':DataW Unit),k<=y.likes.length/\i=X k/\s=X L/\-100<=L/\L<=100/\n'<=n+k/\w.heap.size<=wr.heap.size/\Hid (L=Ct (λt=>Ch t b.marks b.zone) y.likes k)/\Hid (wr.ownsMap prog 245 Lf m4 n' D')/\Hid (MemoOk bs D')/\Hid (But m4 w.heap.size w wr)) (λ_ i _=>y.likes.length-(intOf i).toNat)
 case atStart=>exact⟨0,0,n0,D,zL,rfl,rfl,by omega,by omega,by omega,Nat.le_refl _,rfl,O4,HM,But.refl _ _ _⟩
 obtain⟨k,L,n',D',hk,rfl,rfl,hL0,hL1,hn',hs1,hL,hO,hM,hB⟩:=hrel;by_cases hlt:k<y.likes.length
 .obtain⟨l,hl⟩:=gXe hlt
  have hWr:Keeps lo W wr:=HW.out.trans (Gv hB.out ⟨n0,D,hn0,O4,HM⟩ ⟨n',D',Nat.le_refl _,hO.out,hM.out⟩);obtain⟨b7,o7,rfl,_,_,hc⟩:=(N7.out.keep LikC.holds hWr nL).at hl;obtain⟨q0,q1,z0⟩:=hc;simp only[Nat.add_zero]at q0;have HLL:=iH hl;have HZ0:=iH z0;have hwt:=HLW.out k l hl;have HWR:=iH hWr;clear hl z0 hWr;go_upto_region 5 with fail;have hbx:=(Below.refl _ wr).alloc nL (Obj.cells #[Y l.select,X l.weight] 129);have g0:(wr.alloc (Obj.cells #[Y l.select,X l.weight] 129)).cell? (E wr.heap.size 0)=some (Y l.select):=by simp
  have g1:(wr.alloc (Obj.cells #[Y l.select,X l.weight] 129)).cell? (E wr.heap.size 1)=some (X l.weight):=by simp
  have hs4:wr.heap.size<(wr.alloc (Obj.cells #[Y l.select,X l.weight] 129)).heap.size:=by simp
  generalize wr.alloc (Obj.cells #[Y l.select,X l.weight] 129)=w4 at *;have HO4:=iH (Ag hO.out hbx hO.out.lt);have HB4:Hid (But m4 w.heap.size w w4):=hB.out.trans (But.of_below (hbx.mono hB.out.size));have HW4:Hid (Keeps lo W w4):=HWR.out.trans (Keeps.of_below hbx nL lo);have P7':w4.cell? (E p 7)=some (.map (some m4)):=(HB4.out.cell (a:=(E p 7)) hpl hp).trans P7;clear hbx;go_wp2_with fail;rw[HSP.out];refine(mV p m4 ci bi n' y (O b7 o7) c7 b am cm u1 u2 u3 bs D' l.select lo _ P7' HO4 hM.out HB hbi (by omega) (NM.out.keep StrC.holds HW4 nL) hml hz HZ0).mono ?_;rintro e w5⟨rfl,D5,ho5,hm5,hb5⟩;rw[<-HSP.out];have HO5:=iH ho5;have HM5:=iH hm5;have HB5:Hid (But m4 w.heap.size w w5):=HB4.out.trans (hb5.mono HB4.out.size);have hs5:w.heap.size<=w5.heap.size:=by have:=hb5.size;omega
  have h4m:m4<w.heap.size:=hm4l;have r1:w5.cell? (E wr.heap.size 1)=some (X l.weight):=(hb5.cell (a:=(E wr.heap.size 1)) hs4 (by show wr.heap.size≠m4;omega)).trans g1;clear ho5 hm5 hb5 g0 g1;have hbd:=Rn (f:=λt=>Ch t b.marks b.zone) HLW k
  cases ha:Ch l.select b.marks b.zone with
  |true =>
   have HE:Hid (Ct (λt=>Ch t b.marks b.zone) y.likes (k+1)=Ct (λt=>Ch t b.marks b.zone) y.likes k+l.weight):=Ua HLL ha;have hLe:=hL.out;have hx0:-100<=L+l.weight:=by omega
   have hx1:L+l.weight<=100:=by omega
   clear hbd hLe
   go_wp2
   go_roundw
   case rel=>exact⟨k+1,L+l.weight,n'+1,D5,by omega,by go_num,rfl,hx0,hx1,by omega,hs5,by show _=_;rw[HE.out,hL.out],HO5,HM5,HB5⟩
   simp[intOf];omega
  |false =>
   have HE:Hid (Ct (λt=>Ch t b.marks b.zone) y.likes (k+1)=Ct (λt=>Ch t b.marks b.zone) y.likes k):=Yw HLL ha;clear hbd
   go_wp2
   go_roundw
   case rel=>exact⟨k+1,L,n'+1,D5,by omega,by go_num,rfl,hL0,hL1,by omega,hs5,by show _=_;rw[HE.out,hL.out],HO5,HM5,HB5⟩
   simp[intOf];omega
 have hke:k=y.likes.length:=by omega
 subst hke
 go_wp2
 go_ret;exact⟨Al hL.out,⟨n',D',by omega,hO.out,hM.out⟩,hB.out⟩
end Go.Proofs.YthboopnmbglkjaaGreat
