import Derived.Test.YthboopnmbglkjaaGreatJ21
import Derived.Test.YthboopnmbglkjaaGreatJ19
set_option maxHeartbeats 4000000
set_option maxRecDepth 100000
namespace Go.Proofs.YthboopnmbglkjaaGreat
open Go.RowKit Tryz
theorem qK(y:P.Tr)(hw:P.wf y):nOk y->Hi y:=by
 refine P.wf_ind (p:=λy=>nOk y->Hi y) ?_ ?_ ?_ ?_ ?_ ?_ y hw
 .intro _;exact⟨zL,zL,trivial,trivial⟩
 .intro n hn
  exact⟨lT (P.nameOk_pos (hn.2.1 rfl)).2 (by decide),zL,trivial,trivial⟩
 .intro n v hn
  obtain⟨h1,h2⟩:=hn.2.2.1 rfl;exact⟨lT (P.nameOk_pos h1).2 (by decide),lT (P.nameOk_pos h2).2 (by decide),trivial,trivial⟩
 .intro k _ ih hn;exact⟨zL,zL,ih hn.2.2.2.1,trivial⟩
 .intro a b _ _ ia ib hn;exact⟨zL,zL,ia hn.2.2.2.1,ib hn.2.2.2.2⟩
 intro a b _ _ ia ib hn;exact⟨zL,zL,ia hn.2.2.2.1,ib hn.2.2.2.2⟩
theorem Ll{t:BA}(h:Ap t=0):P.wf (Dl t)/\(Dl t=P.nonT\/nOk (Dl t))/\P.tall (Dl t)<=20/\P.count (Dl t)<=200:=by
 have ht:¬200<t.size:=by
  intro hb;unfold Ap at h;rw[if_pos hb]at h;cases h
 have hl:=Hx (i:=0) (t:=t) (by omega);unfold Ap at h;rw[if_neg ht]at h;unfold Dl;by_cases hL:Ad t 0=[]
 .rw[if_pos hL]
  exact⟨P.wf_non,.inl rfl,by decide,by decide⟩
 rw[if_neg hL]at h⊢
 cases hr:P.rd 1000 2 P.nonT (Ad t 0)with
 |none=>rw[hr]at h;cases h
 | some yr =>
  obtain⟨y,r⟩:=yr;obtain⟨_,_,a3,_,a5,a6⟩:=P.rd_rd 1000 2 P.nonT _ _ _ (λh=>by omega) hr;rw[if_pos (by omega)]at a5;have hn:=(Gw 1000 2 P.nonT _ _ _ (λh=>by omega) hr).1;refine⟨a3,.inr hn,?_,?_⟩
  .show P.tall y<=20
   rw[hr]at h
   cases r with
   |nil =>
    by_cases h20:20<P.tall y
    .simp[h20]at h
    omega
   |cons a b=>simp at h
  show P.count y<=200
  omega
theorem iU{t:BA}(h:Ap t=0):Hi (Dl t):=by
 obtain⟨hw,hn,_,_⟩:=Ll h;rcases hn with e|hn
 .rw[e];exact⟨zL,zL,trivial,trivial⟩
 exact qK _ hw hn
theorem uO(t nm z:BA)(ms:List BA)(a:OA)(cap lo:Nat)(rm hd:Int)(cl:Bool)(w:World)(hin:sX lo w a ms)(hml:ms.length<=1000)(hz:z.size<=1000)(ht:t.size<=maxLen) :
  Calls prog 187 #[Y t,.agg #[Y nm,Y z,.slice a ms.length cap,X rm,X hd,.bool cl]] w λe w'=>e=.returned (.bool (Ch t ms z))/\bW w w' :=
 fL t nm z ms a cap lo rm hd cl w hin hml hz ht (λh=>(Ll h).1) iU (λs hs=>by
  obtain⟨j,hj⟩:=List.getElem?_of_mem hs;obtain⟨_,_,_,_,_,hc⟩:=hin.at hj
  exact hc.2)
open Go.WideMaps Go.Maps Tryz
theorem Nx{P:Program}{w:World}(base:Nat)(t ty e:TypeId)(i:TypeInfo)(size:Nat)(ht:P.underlying t=some (.slice e))(hi:P.info? e=some i)(v:Value)(n c:Nat)(xs:List Value)(hown:w.ownsRow base e size v n xs) :
  (Builtin.append_ #[t,t] ty #[v,.slice none 0 c]).run P w=.ok v w:=by
 rcases hown.2 with⟨rfl,rfl⟩|⟨g,cap,cur,rfl,_,_,hnc,_⟩
 .simp[Builtin.append_,run_underlying ht,sizeOf,typeInfo,hi,Builtin.lenOf,Builtin.firstCells]
 simp[Builtin.append_,run_underlying ht,sizeOf,typeInfo,hi,Builtin.lenOf,Builtin.firstCells,hnc,storeCells]
theorem Gu{ops:Array Oper}{o:Oper}{ac:Act}{w:World}{K:Act->World->Prop}{Q:Exit->Act->World->Prop}{E9:Prop}(hgd:o.guard=none)(s x:Operand)(ho:o.op=.call {callee:=.builtin .append,args:=#[s,x],argTypes:=#[47,47]})(base:Nat)(v:Value)(n:Nat)(xs:List Value)(hs:ac.eval s=v)(hown:w.ownsRow base 9 1 v n xs)(ms:List BA)(a:OA)(cap lo:Nat)(hx:ac.eval x=.slice a ms.length cap)(hin:sX lo w a ms)(hb:n+ms.length<=100000)(hbase:base<=w.heap.size)(h:∀v' w',w'.ownsRow base 9 1 v' (n+ms.length) (xs++ms.map Value.string)->w.grownBy w' v.ownBlock->(v'.ownBlock=v.ownBlock\/v'.ownBlock=some w.heap.size)->K (ac.put o.dst v') w') :
  if Region.wanted o (yielded ops ac.tmps)=true then Oper.wp prog o ac w K Q else E9:=by
 obtain⟨i0,hi,hz0,hz1,hz2⟩:=info_parts Hc;have hw:Region.wanted o (yielded ops ac.tmps)=true:=by simp[Region.wanted,hgd]
 rw[if_pos hw]
 cases a with
 | none =>
  have hm0:ms=[]:=by
   rcases hin.2 with h|⟨b,o,h,_⟩
   .exact h
   cases h
  subst hm0;have hr:=Nx (P:=prog) (w:=w) base 47 o.type 9 i0 1 underlying47 hi v n cap xs hown;unfold Oper.wp execOp;simp only[List.length_nil]at hx;simp only[ho,resolve,invoke,builtin,Sem.run_bind,Sem.run_pure,Result.andThen_ok,List.map_toArray,List.map_cons,List.map_nil,hs,hx,hr];exact h v w (by simpa using hown) ⟨rfl,rfl,rfl,Nat.le_refl _,λ_ _ _=>rfl⟩ (.inl rfl)
 | some ad =>
  obtain⟨v',w',hr,h2,h3,_,h5⟩:=run_append_own_at (P:=prog) w base 47 o.type 9 i0 (Y ⟨#[]⟩) 1 16 underlying47 hi hz0 hz1 hz2 rfl (by decide) v n xs hown ad ms.length cap (ms.map Value.string) (by simp)
   (λj u hj=>by
    obtain⟨s,hs,rfl⟩:=Zp hj;obtain⟨b,o,e,_,_,hc⟩:=hin.at hs;cases e
    have:=hc.1;simp only[Nat.mul_one,Nat.add_zero]at this;rw[Addr.add_lit]
    exact this) (Vy ms) (by unfold maxLen;omega) (by omega) hbase
  unfold Oper.wp execOp;simp only[ho,resolve,invoke,builtin,Sem.run_bind,Sem.run_pure,Result.andThen_ok,List.map_toArray,List.map_cons,List.map_nil,hs,hx,hr]
  exact h v' w' h2 h3 (by
   rcases h5 with h5|h5
   .exact .inl h5
   exact .inr h5)
theorem dV(nm z:BA)(ms:List BA)(a:OA)(cap lo:Nat)(rm hd:Int)(cl:Bool)(w:World)(hin:sX lo w a ms)(hml:ms.length<=1000)(hz:z.size<=1000)(hsz:∀s∈ms,s.size<=maxLen) :
  Calls prog 152 #[.agg #[Y nm,Y z,.slice a ms.length cap,X rm,X hd,.bool cl]] w λe w'=>∃g c,e=.returned (sP g 0 (Dp ms z).length c)/\sX 0 w' (O g 0) (Dp ms z)/\bW w w':=by
 obtain⟨i0,hi,hz0,hz1,hz2⟩:=info_parts Hc;have HI:=iH hin;have HSZ:Hid (∀s∈ms,s.size<=maxLen):=hsz;clear hin hsz;go_enter func152,ntmps152;go_upto_region 1 with fail;have hal:=(Below.refl _ w).alloc nL (Obj.cells #[Y nm,Y z,.slice a ms.length cap,X rm,X hd,.bool cl] 92);have e1:(w.alloc (Obj.cells #[Y nm,Y z,.slice a ms.length cap,X rm,X hd,.bool cl] 92)).cell? (E w.heap.size 1)=some (Y z):=by simp
 have e2:(w.alloc (Obj.cells #[Y nm,Y z,.slice a ms.length cap,X rm,X hd,.bool cl] 92)).cell? (E w.heap.size 2)=some (.slice a ms.length cap):=by simp
 have HI1:=qSl StrC.holds HI hal;have HB1:=iH hal;clear hal HI;generalize(w.alloc (Obj.cells #[Y nm,Y z,.slice a ms.length cap,X rm,X hd,.bool cl] 92))=w2 at *;have HB3:Hid (bW w w2.drew):=HB1.out.drew;have HI3:Hid (sX lo w2.drew a ms):=HI1.out.below StrC.holds ((Below.refl _ w2).drew) nL;refine wp_region_held_drew (S:=TwoZ w.heap.size (Y z) (.slice a ms.length cap)) (by kernel_rfl) (by simpa[TwoZ]using⟨e1,e2⟩) (λhS=>?_);generalize w2.drew=w3 at *;clear HB1 HI1 e1 e2;refine x6 1 4 (pP w.heap.size 2) ?_;refine x6 2 5 (.slice a ms.length cap) ?_;refine x6 4 7 (pP w.heap.size 1) ?_;refine x6 5 8 (Y z) ?_;refine ty 6 ⟨some 9,_,_,_,_,none⟩ (Y (Dh++z)) ?_ ?_
 .intro wy hy
  obtain⟨y0,y1⟩:=hy;go_simp;omega
 refine wpAnyH_ready (rs:=[0,7]) (by kernel_rfl) (by simp) (AllReadyH.cons (o:=⟨some 3,_,_,_,_,none⟩) rfl (λK hK=>?_) (AllReadyH.cons (o:=⟨some 10,_,_,_,_,none⟩) rfl (λK hK=>?_) AllReadyH.nil))
 case' _ =>
  go_simp;have hal:=(Below.refl _ w3).alloc nL (Obj.cells #[] 9);have HB4:=qTH HB3 hal;have HI4:=qSl StrC.holds HI3 hal;have HO4:Hid ((w3.alloc (Obj.cells #[] 9)).ownsRow w.heap.size 9 1 (sP w3.heap.size 0 0 0) 0 []):=World.ownsRow_made w3 #[] 0 HB3.out.size (zL) rfl;have HNE4:Hid ((sP w3.heap.size 0 0 0).ownBlock≠some w.heap.size):=by
   intro e;have h2:w.heap.size<w3.heap.size:=block_lt_of_cell hS.1;have h3:w3.heap.size=w.heap.size:=Option.some.inj e;omega
  refine hK.out _ _ (hS.below hal) (λhS=>?_);clear hal HB3 HI3;generalize(w3.alloc (Obj.cells #[] 9))=w4 at *;generalize w3.heap.size=p0 at *;clear hK K;refine wpAnyH_ready (rs:=[3,7]) (by kernel_rfl) (by simp) (AllReadyH.cons (o:=⟨some 6,_,_,_,_,none⟩) rfl (λK hK=>?_) (AllReadyH.cons (o:=⟨some 10,_,_,_,_,none⟩) rfl (λK hK=>?_) AllReadyH.nil))
  case' _ =>
   refine Gu (by rfl) (.tmp 3) (.tmp 5) (by rfl) w.heap.size _ 0 [] (by rfl) HO4 ms a cap lo (by rfl) HI4 (by omega) HB4.out.size ?_;intro v w5 hown hgrow hob;simp only[Nat.zero_add,List.nil_append]at hown;have HO5:=iH hown;have HB5:Hid (bW w w5):=HB4.out.grown hgrow HB4.out.size (λi hi=>(HO4.out.lt i hi).1);have HNE5:Hid (v.ownBlock≠some w.heap.size):=by
    rcases hob with e|e
    .rw[e];exact HNE4.out
    .rw[e]
     intro e';have h2:w.heap.size<w4.heap.size:=block_lt_of_cell hS.1;have h3:w4.heap.size=w.heap.size:=Option.some.inj e';omega
   refine hK.out _ _ (TwoZ.grownZ hS hgrow HNE4) (λhS=>?_);clear hown hgrow hob HB4 HI4 HO4 HNE4;clear hK K;simp only[pX];refine rd1 7 ⟨some 10,_,_,_,_,none⟩ rfl (λK hK=>?_);go_simp;have hal:=(Below.refl _ w5).alloc nL (Obj.cells #[Y (Dh++z)] 9);have HB6:=qTH HB5 hal;have HA6:Hid ((w5.alloc (Obj.cells #[Y (Dh++z)] 9)).cell? (E w5.heap.size 0)=some (Y (Dh++z))):=by show _=_;simp
   have HO6:=iH (Ak HO5 hal);have HNE6:=HNE5;have HQ6:Hid (v.ownBlock≠some w5.heap.size):=by
    intro e;have:=(HO5.out.lt _ e).2;omega
   refine hK.out _ _ (hS.below hal) (λhS=>?_);clear hal HB5 HO5 HNE5;generalize(w5.alloc (Obj.cells #[Y (Dh++z)] 9))=w6 at *;generalize w5.heap.size=sb at *;clear hK K
  rotate_left
  case' _ =>
   go_simp;have hal:=(Below.refl _ w4).alloc nL (Obj.cells #[Y (Dh++z)] 9);have HB5:=qTH HB4 hal;have HA5:Hid ((w4.alloc (Obj.cells #[Y (Dh++z)] 9)).cell? (E w4.heap.size 0)=some (Y (Dh++z))):=by show _=_;simp
   have HI5:=qSl StrC.holds HI4 hal;have HO5:=iH (Ak HO4 hal);have HNE5:=HNE4;have HQ5:Hid ((sP p0 0 0 0).ownBlock≠some w4.heap.size):=by
    intro e;have:=(HO4.out.lt _ e).2;omega
   refine hK.out _ _ (hS.below hal) (λhS=>?_);clear hal HB4 HO4 HNE4 HI4;generalize(w4.alloc (Obj.cells #[Y (Dh++z)] 9))=w5 at *;generalize w4.heap.size=sb at *;clear hK K;refine rd1 3 ⟨some 6,_,_,_,_,none⟩ rfl (λK hK=>?_);refine Gu (by rfl) (.tmp 3) (.tmp 5) (by rfl) w.heap.size _ 0 [] (by rfl) HO5 ms a cap lo (by rfl) HI5 (by omega) HB5.out.size ?_;intro v w6 hown hgrow hob;simp only[Nat.zero_add,List.nil_append]at hown;have HO6:=iH hown;have HB6:Hid (bW w w6):=HB5.out.grown hgrow HB5.out.size (λi hi=>(HO5.out.lt i hi).1);have HNE6:Hid (v.ownBlock≠some w.heap.size):=by
    rcases hob with e|e
    .rw[e];exact HNE5.out
    .rw[e]
     intro e';have h2:w.heap.size<w5.heap.size:=block_lt_of_cell hS.1;have h3:w5.heap.size=w.heap.size:=Option.some.inj e';omega
   have HA6:Hid (w6.cell? (E sb 0)=some (Y (Dh++z))):=hgrow.cell HA5 (λe=>HQ5.out e.symm);have HQ6:Hid (v.ownBlock≠some sb):=by
    rcases hob with e|e
    .rw[e];exact HQ5.out
    .rw[e]
     intro e';have h2:sb<w5.heap.size:=block_lt_of_cell HA5;have h3:w5.heap.size=sb:=Option.some.inj e';omega
   refine hK.out _ _ (TwoZ.grownZ hS hgrow HNE5) (λhS=>?_);clear hown hgrow hob HB5 HI5 HO5 HNE5 HA5 HQ5;clear hK K;simp only[pX]
  rotate_left
 rotate_left 2
 case' _ =>
  go_simp;have hal:=(Below.refl _ w3).alloc nL (Obj.cells #[Y (Dh++z)] 9);have HB4:=qTH HB3 hal;have HA4:Hid ((w3.alloc (Obj.cells #[Y (Dh++z)] 9)).cell? (E w3.heap.size 0)=some (Y (Dh++z))):=by show _=_;simp
  have HI4:=qSl StrC.holds HI3 hal;refine hK.out _ _ (hS.below hal) (λhS=>?_);clear hal HB3 HI3;generalize(w3.alloc (Obj.cells #[Y (Dh++z)] 9))=w4 at *;generalize w3.heap.size=sb at *;clear hK K;refine rd1 0 ⟨some 3,_,_,_,_,none⟩ rfl (λK hK=>?_);go_simp;have hal:=(Below.refl _ w4).alloc nL (Obj.cells #[] 9);have HB5:=qTH HB4 hal;have HI5:=qSl StrC.holds HI4 hal;have HO5:Hid ((w4.alloc (Obj.cells #[] 9)).ownsRow w.heap.size 9 1 (sP w4.heap.size 0 0 0) 0 []):=World.ownsRow_made w4 #[] 0 HB4.out.size (zL) rfl;have HNE5:Hid ((sP w4.heap.size 0 0 0).ownBlock≠some w.heap.size):=by
   intro e;have h2:w.heap.size<w4.heap.size:=block_lt_of_cell hS.1;have h3:w4.heap.size=w.heap.size:=Option.some.inj e;omega
  have HA5:Hid ((w4.alloc (Obj.cells #[] 9)).cell? (E sb 0)=some (Y (Dh++z))):=(hal.cell (p:=(E sb 0)) (block_lt_of_cell HA4)).trans HA4;have HQ5:Hid ((sP w4.heap.size 0 0 0).ownBlock≠some sb):=by
   intro e;have h2:sb<w4.heap.size:=block_lt_of_cell HA4;have h3:w4.heap.size=sb:=Option.some.inj e;omega
  refine hK.out _ _ (hS.below hal) (λhS=>?_);clear hal HB4 HI4 HA4;generalize(w4.alloc (Obj.cells #[] 9))=w5 at *;generalize w4.heap.size=p0 at *;clear hK K;refine rd1 3 ⟨some 6,_,_,_,_,none⟩ rfl (λK hK=>?_);refine Gu (by rfl) (.tmp 3) (.tmp 5) (by rfl) w.heap.size _ 0 [] (by rfl) HO5 ms a cap lo (by rfl) HI5 (by omega) HB5.out.size ?_;intro v w6 hown hgrow hob;simp only[Nat.zero_add,List.nil_append]at hown;have HO6:=iH hown;have HB6:Hid (bW w w6):=HB5.out.grown hgrow HB5.out.size (λi hi=>(HO5.out.lt i hi).1);have HNE6:Hid (v.ownBlock≠some w.heap.size):=by
   rcases hob with e|e
   .rw[e];exact HNE5.out
   .rw[e]
    intro e';have h2:w.heap.size<w5.heap.size:=block_lt_of_cell hS.1;have h3:w5.heap.size=w.heap.size:=Option.some.inj e';omega
  have HA6:Hid (w6.cell? (E sb 0)=some (Y (Dh++z))):=hgrow.cell HA5 (λe=>HQ5.out e.symm);have HQ6:Hid (v.ownBlock≠some sb):=by
   rcases hob with e|e
   .rw[e];exact HQ5.out
   .rw[e]
    intro e';have h2:sb<w5.heap.size:=block_lt_of_cell HA5;have h3:w5.heap.size=sb:=Option.some.inj e';omega
  refine hK.out _ _ (TwoZ.grownZ hS hgrow HNE5) (λhS=>?_);clear hown hgrow hob HB5 HI5 HO5 HNE5 HA5 HQ5;clear hK K;simp only[pX]
 rotate_left
 all_goals
  refine rd1 8 ⟨some 11,_,_,_,_,none⟩ rfl (λK hK=>?_);refine step_append_lies _ (by rfl) (.tmp 6) (.tmp 10) 47 (by rfl) w.heap.size 9 i0 _ 1 16 underlying47 hi hz0 hz1 hz2 (by rfl) (by decide) v ms.length _ (by rfl) HO6 (E sb 0) 1 1 [Y (Dh++z)] (by rfl) (by rfl) (sY HA6) (by intro u hu;rw[List.mem_singleton.1 hu];rfl) (by omega) (by unfold maxLen;omega) (by omega) HB6.out.size w6.heap.size rfl ?_;intro g cap2 w9 hown hgrow hto hgl;have HO9:=iH hown;have HB9:Hid (bW w w9):=HB6.out.grown hgrow HB6.out.size (λi hi=>(HO6.out.lt i hi).1);refine hK.out _ _ (TwoZ.grownZ hS hgrow HNE6) (λhS=>?_);clear hK K hown hgrow hto HO6 HB6 HA6 HNE6;simp only[pX];refine x6 9 2 ((sP g 0 (ms.length+1) cap2)) ?_;refine td ?_;have HZ9:Hid (sX 0 w9 (O g 0) (Dp ms z)):=Zc HO9 HSZ hz hml;have hlen:ms.length+1=(Dp ms z).length:=by simp[Dp]
  rw[hlen];clear hlen HO9 hS hgl
  go_wp2
  go_ret;exact⟨_,_,rfl,HZ9,HB9⟩
def Il(t:BA)(ms:List BA)(z:BA):Bool:=decide (Ap t=0)&&Ce (Dp ms z) (Dl t)
theorem nO{t:BA}(h:Ap t=0):0<(Bo t).length/\gO (Bo t)/\∀ms,Ja (Bo t) ms=Ce ms (Dl t):=by
 obtain⟨hw,hn,h20,hc⟩:=Ll h;rw[Iu h rfl];rcases hn with e|hn
 .rw[e]
  refine⟨by decide,⟨by decide,?_⟩,λms=>rfl⟩;intro n hn;simp[post,P.nonT]at hn;subst hn;exact⟨zL,zL⟩
 have hv:=Vc hw hn (by omega);have ht:=Oi hw hn;rw[decide_eq_true h20]at hv;rw[if_pos h20]at ht;refine⟨?_,⟨?_,?_⟩,λms=>?_⟩
 .rw[Qj _ hw]
  rcases P.wf_cases hw with e|⟨n,e⟩|⟨n,v,e⟩|⟨k,_,e⟩|⟨a,b,_,_,e⟩|⟨a,b,_,_,e⟩
  .rw[e];decide
  .rw[e];exact Nat.one_pos
  .rw[e];exact Nat.one_pos
  .rw[e,P.count_nt];omega
  .rw[e,P.count_an];omega
  rw[e,P.count_or];omega
 .rw[Qj _ hw];omega
 .intro n hm
  have:=Wy _ hw hn n hm;omega
 rw[Ja,hv,ht];rfl
def SevC(p q:Nat)(c0 c1 c2 c3 c4 c5 c6:Value)(w:World):Prop:=w.cell? (E p 0)=some c0/\w.cell? (E p 1)=some c1/\w.cell? (E p 2)=some c2/\w.cell? (E p 3)=some c3/\w.cell? (E p 4)=some c4/\w.cell? (E p 5)=some c5/\w.cell? (E q 0)=some c6
theorem SevC.below{p q:Nat}{c0 c1 c2 c3 c4 c5 c6:Value}{w w':World}(h:SevC p q c0 c1 c2 c3 c4 c5 c6 w)(hb:bW w w'):SevC p q c0 c1 c2 c3 c4 c5 c6 w':=by
 obtain⟨h0,h1,h2,h3,h4,h5,h6⟩:=h;exact⟨(hb.cell (p:=(E p 0)) (block_lt_of_cell h0)).trans h0,(hb.cell (p:=(E p 1)) (block_lt_of_cell h1)).trans h1,(hb.cell (p:=(E p 2)) (block_lt_of_cell h2)).trans h2,(hb.cell (p:=(E p 3)) (block_lt_of_cell h3)).trans h3,(hb.cell (p:=(E p 4)) (block_lt_of_cell h4)).trans h4,(hb.cell (p:=(E p 5)) (block_lt_of_cell h5)).trans h5,(hb.cell (p:=(E q 0)) (block_lt_of_cell h6)).trans h6⟩
theorem Qn(t nm z:BA)(ms:List BA)(a:OA)(cap lo:Nat)(rm hd:Int)(cl:Bool)(w:World)(hin:sX lo w a ms)(hml:ms.length<=1000)(hz:z.size<=1000)(ht:t.size<=maxLen) :
  Calls prog 120 #[Y t,.agg #[Y nm,Y z,.slice a ms.length cap,X rm,X hd,.bool cl]] w (Rt (.bool (Il t ms z)) w):=by
 have HSZ:Hid (∀s∈ms,s.size<=maxLen):=λs hs=>by
  obtain⟨j,hj⟩:=List.getElem?_of_mem hs;obtain⟨_,_,_,_,_,hc⟩:=hin.at hj;exact hc.2
 have HI:=iH hin;clear hin;go_enter func120,ntmps120;go_upto_region 1 with fail;have hal:=(Below.refl _ w).alloc nL (Obj.cells #[Y nm,Y z,.slice a ms.length cap,X rm,X hd,.bool cl] 92);have e0:(w.alloc (Obj.cells #[Y nm,Y z,.slice a ms.length cap,X rm,X hd,.bool cl] 92)).cell? (E w.heap.size 0)=some (Y nm):=by simp
 have e1:(w.alloc (Obj.cells #[Y nm,Y z,.slice a ms.length cap,X rm,X hd,.bool cl] 92)).cell? (E w.heap.size 1)=some (Y z):=by simp
 have e2:(w.alloc (Obj.cells #[Y nm,Y z,.slice a ms.length cap,X rm,X hd,.bool cl] 92)).cell? (E w.heap.size 2)=some (.slice a ms.length cap):=by simp
 have e3:(w.alloc (Obj.cells #[Y nm,Y z,.slice a ms.length cap,X rm,X hd,.bool cl] 92)).cell? (E w.heap.size 3)=some (X rm):=by simp
 have e4:(w.alloc (Obj.cells #[Y nm,Y z,.slice a ms.length cap,X rm,X hd,.bool cl] 92)).cell? (E w.heap.size 4)=some (X hd):=by simp
 have e5:(w.alloc (Obj.cells #[Y nm,Y z,.slice a ms.length cap,X rm,X hd,.bool cl] 92)).cell? (E w.heap.size 5)=some (.bool cl):=by simp
 have HI1:=qSl StrC.holds HI hal;have HB1:=iH hal;clear hal HI;generalize(w.alloc (Obj.cells #[Y nm,Y z,.slice a ms.length cap,X rm,X hd,.bool cl] 92))=w1 at *;go_wp2_with fail;refine(Zl t _ ht).mono ?_;rintro e w2⟨an,cn,rfl,hn,hb2⟩;have HE0:Hid (w2.cell? (E w.heap.size 0)=some (Y nm)):=(hb2.cell (p:=(E w.heap.size 0)) (block_lt_of_cell e0)).trans e0;have HE1:Hid (w2.cell? (E w.heap.size 1)=some (Y z)):=(hb2.cell (p:=(E w.heap.size 1)) (block_lt_of_cell e1)).trans e1;have HE2:Hid (w2.cell? (E w.heap.size 2)=some (.slice a ms.length cap)):=(hb2.cell (p:=(E w.heap.size 2)) (block_lt_of_cell e2)).trans e2;have HE3:Hid (w2.cell? (E w.heap.size 3)=some (X rm)):=(hb2.cell (p:=(E w.heap.size 3)) (block_lt_of_cell e3)).trans e3;have HE4:Hid (w2.cell? (E w.heap.size 4)=some (X hd)):=(hb2.cell (p:=(E w.heap.size 4)) (block_lt_of_cell e4)).trans e4;have HE5:Hid (w2.cell? (E w.heap.size 5)=some (.bool cl)):=(hb2.cell (p:=(E w.heap.size 5)) (block_lt_of_cell e5)).trans e5;have HI2:=qSl StrC.holds HI1 hb2;have HB2:=qTH HB1 hb2;have HN2:Hid (BV w2 0 an (Bo t)):=hn.imp id (λ⟨g,h1,_,h3⟩=>⟨g,h1,zL,h3⟩);clear hb2 hn HI1 HB1 e0 e1 e2 e3 e4 e5;have hal:=(Below.refl _ w2).alloc nL (Obj.cells #[.slice an (Bo t).length cn] 174);have HI3:Hid (sX lo (w2.alloc (Obj.cells #[.slice an (Bo t).length cn] 174)).drew a ms):=(HI2.out.below StrC.holds hal nL).below StrC.holds ((Below.refl _ (w2.alloc (Obj.cells #[.slice an (Bo t).length cn] 174))).drew) nL;have HB3:Hid (bW w (w2.alloc (Obj.cells #[.slice an (Bo t).length cn] 174)).drew):=(qTr HB2 hal).drew;have HN3:Hid (∀g,Nodes0 w2 g (Bo t)->Nodes0 (w2.alloc (Obj.cells #[.slice an (Bo t).length cn] 174)).drew g (Bo t)):=λg h=>(h.grown hal).grown ((Below.refl _ (w2.alloc (Obj.cells #[.slice an (Bo t).length cn] 174))).drew)
 have HS3:Hid (SevC w.heap.size w2.heap.size (Y nm) (Y z) (.slice a ms.length cap) (X rm) (X hd) (.bool cl) (.slice an (Bo t).length cn) (w2.alloc (Obj.cells #[.slice an (Bo t).length cn] 174))):=SevC.below (w:=(w2.alloc (Obj.cells #[.slice an (Bo t).length cn] 174))) ⟨(hal.cell (p:=(E w.heap.size 0)) (block_lt_of_cell HE0)).trans HE0,(hal.cell (p:=(E w.heap.size 1)) (block_lt_of_cell HE1)).trans HE1,(hal.cell (p:=(E w.heap.size 2)) (block_lt_of_cell HE2)).trans HE2,(hal.cell (p:=(E w.heap.size 3)) (block_lt_of_cell HE3)).trans HE3,(hal.cell (p:=(E w.heap.size 4)) (block_lt_of_cell HE4)).trans HE4,(hal.cell (p:=(E w.heap.size 5)) (block_lt_of_cell HE5)).trans HE5,by simp⟩ (Below.refl _ _);clear hal;by_cases hc:Ap t=0
 .have HC:Hid (Ap t=0):=hc
  rw[hc];clear hc;go_upto_region 3 with fail;obtain⟨hpos,hsm,hms⟩:=nO HC;have HSM:=iH hsm;have HR:Hid (Ja (Bo t) (Dp ms z)=Il t ms z):=by show _=_;rw[hms];unfold Il;rw[decide_eq_true HC.out];rfl
  obtain⟨g0,han,hn0⟩:∃g,an=(O g 0)/\Nodes0 w2 g (Bo t):=by
   rcases HN2.out with⟨h,_⟩|⟨g,h1,_,h3⟩
   .rw[h]at hpos;exact absurd hpos (Nat.lt_irrefl _)
   exact⟨g,h1,h3⟩
  subst han;have HN4:=HN3.out g0 hn0;have HND:Hid (Nodes0 _ g0 (Bo t)):=HN4;clear HN4 hn0 hpos hsm hms HN3 HN2 HI2 HB2 HE0 HE1 HE2 HE3 HE4 HE5;refine wp_region_held_drew (S:=SevC w.heap.size w2.heap.size (Y nm) (Y z) (.slice a ms.length cap) (X rm) (X hd) (.bool cl) (sP g0 0 (Bo t).length cn)) (by kernel_rfl) (by simpa[SevC]using HS3.out) (λhS=>?_);clear HS3;generalize(w2.alloc (Obj.cells #[sP g0 0 (Bo t).length cn] 174)).drew=w3 at *;generalize w2.heap.size=q2 at *;refine x5 0 12 (X 0) ?_;refine x5 1 13 (.bool true) ?_;refine x5 2 14 (.bool true) ?_;refine x5 3 15 (.agg #[sP g0 0 (Bo t).length cn]) ?_;refine x5 4 16 (.agg #[Y nm,Y z,.slice a ms.length cap,X rm,X hd,.bool cl]) ?_;refine rd1 5 ⟨some 17,_,_,_,_,some (2,true)⟩ rfl (λK hK=>?_);go_simp;refine(dV nm z ms a cap lo rm hd cl _ HI3 hml hz HSZ).mono ?_;rintro e w4⟨g4,c4,rfl,hm4,hb⟩;have HM4:=iH hm4;have HND4:Hid (Nodes0 w4 g0 (Bo t)):=HND.out.grown hb;have HB4:=qTH HB3 hb;refine hK.out _ _ (hS.below hb) (λhS=>?_);clear hm4 hb HND HB3 HI3 hK K;refine rd1 6 ⟨some 18,_,_,_,_,some (2,true)⟩ rfl (λK hK=>?_);go_simp;refine(Ye (Bo t) g0 cn (Dp ms z) _ c4 _ HND4 HSM HM4).mono ?_;rintro e w5⟨rfl,hb⟩;rw[HR.out];have HB5:=qTH HB4 hb;refine hK.out _ _ (hS.below hb) (λhS=>?_);clear hb HND4 HB4 HM4 hK K;refine x5 7 19 (.bool (Il t ms z)) ?_;refine x5 8 4 (.bool (Il t ms z)) ?_;refine td ?_
  go_wp2
  go_ret;exact⟨rfl,HB5⟩
 have hc0:¬((Ap t:Nat):Int)=0:=by omega
 have HF:Hid (false=Il t ms z):=by show _=_;unfold Il;rw[decide_eq_false hc];rfl
 clear hc;generalize((Ap t:Nat):Int)=q at *;go_upto_region 3 with fail;refine wp_region_held_drew (S:=SevC w.heap.size w2.heap.size (Y nm) (Y z) (.slice a ms.length cap) (X rm) (X hd) (.bool cl) (.slice an (Bo t).length cn)) (by kernel_rfl) (by simpa[SevC]using HS3.out) (λhS=>?_);clear HS3;clear HN3 HN2 HI2 HB2 HE0 HE1 HE2 HE3 HE4 HE5 HI3;generalize(w2.alloc (Obj.cells #[.slice an (Bo t).length cn] 174)).drew=w3 at *;generalize w2.heap.size=q2 at *;refine x5 0 12 (X q) ?_;refine x5 1 13 (.bool false) ?_;refine x5 2 14 (.bool false) ?_;refine ts 3 15 ?_;refine ts 4 16 ?_;refine ts 5 17 ?_;refine ts 6 18 ?_;refine x5 7 19 (.bool false) ?_;refine x5 8 4 (.bool false) ?_;refine td ?_
 go_wp2
 go_ret;exact⟨Ab HF,HB3⟩
theorem aR(t:BA)(a b:List BA):Cm t (a++b)=Cm t a+Cm t b:=by simp[Cm]
theorem Si(a b:List BA)(t:BA):It (a++b) t=(It a t||It b t):=by
 unfold It;rw[aR,Bool.eq_iff_iff];simp;omega
theorem AY(t:BA):It [] t=false:=rfl
theorem Qr(s t:BA):It [s] t=decide (s=t):=by
 unfold It;by_cases h:s=t
 .subst h;rw[Kz];simp
 rw[Hd h];simp[Cm,h]
theorem eA(s r t:BA):It [s,r] t=(decide (s=t)||decide (r=t)):=by
 rw[show[s,r]=[s]++[r]from rfl,Si,Qr,Qr]
theorem uH{m n:BA}(hn:P.nameOk n=true)(h:¬Cd m<0):¬m=n:=by
 intro e;subst e;rw[Ld hn]at h;omega
theorem tO{n:BA}(hn:P.nameOk n=true)(m vl:BA):It (Qv m) n=Oe true n vl m:=by
 unfold Qv Oe
 cases Eb m with
 |false=>rfl
 | true =>
  by_cases h:Cd m<0
  .simp only[if_pos h,if_true]
   rw[Qr];simp
  simp only[if_neg h,if_true];rw[eA,decide_eq_false (uH hn h)];simp
theorem Kl(n v:BA):(n++eqB++v).data.toList=n.data.toList++61::v.data.toList:=by
 simp[eqB]
theorem jN{a b:BA}(h:a.data.toList=b.data.toList):a=b:=by
 cases a with|mk x=>cases b with|mk y=>cases x;cases y;simp at h;simp[h]
theorem Mq(s:BA):s.data.toList.length=s.size:=by simp
theorem Px(s:BA)(a b:Nat):(s.extract a b).data.toList=(s.data.toList.drop a).take (b-a):=by
 rw[ByteArray.data_extract,Array.toList_extract]
theorem Xb{n:BA}(hn:P.nameOk n=true)(v:BA):Cd (n++eqB++v)=(n.size:Int):=by
 have hno:=Ld hn;have hlen:=Mq n;have hs:(n++eqB++v).size=n.size+1+v.size:=by rw[ByteArray.size_append,ByteArray.size_append];rfl
 refine fB (by omega) ?_ ?_
 .have:(n++eqB++v).data.toList[n.size]?=some 61:=by rw[Kl,List.getElem?_append_right (by omega),hlen];simp
  obtain⟨h1,h2⟩:=List.getElem?_eq_some_iff.1 this;have h3:(n++eqB++v)[n.size]=61:=h2;rw[h3];rfl
 intro j hj;rw[Kl,List.getElem?_append_left (by omega)];exact Lib.indexByte_none hno j
theorem qC{n:BA}(hn:P.nameOk n=true)(v:BA):Av (n++eqB++v)=n:=by
 unfold Av;rw[Xb hn,if_neg (by omega)];apply jN;rw[Px,Kl,List.drop_zero,Int.toNat_natCast,Nat.sub_zero];exact List.take_left' (Mq n)
theorem uU{n:BA}(hn:P.nameOk n=true)(v:BA):Ff (n++eqB++v)=v:=by
 unfold Ff;rw[Xb hn,if_neg (by omega)];apply jN;have hlen:=Mq n;have hs:(n++eqB++v).size=n.size+1+v.size:=by rw[ByteArray.size_append,ByteArray.size_append];rfl
 rw[Px,Kl,hs,Int.toNat_natCast,show n.data.toList++61::v.data.toList=(n.data.toList++[61])++v.data.toList by simp];rw[List.drop_left' (by simp)];exact List.take_of_length_le (by rw[Mq];omega)
theorem vJ{m:BA}(h:¬Cd m<0):Av m++eqB++Ff m=m:=by
 obtain⟨o,ho⟩:∃o:Nat,Cd m=o:=⟨(Cd m).toNat,by omega⟩;have hlt:=Vp ho;have h2:=(Lib.indexByte_some ho).1;apply jN;rw[Kl];unfold Av Ff;rw[if_neg h,if_neg h,Px,Px,ho,Int.toNat_natCast,List.drop_zero,Nat.sub_zero];rw[List.take_of_length_le (l:=m.data.toList.drop (o+1)) (by rw[List.length_drop,Mq];omega)];obtain⟨h3,h4⟩:=List.getElem?_eq_some_iff.1 h2;rw[<-h4,<-List.drop_eq_getElem_cons h3,List.take_append_drop]
theorem pI{n v:BA}(hn:P.nameOk n=true)(hv:P.nameOk v=true)(m:BA):It (Qv m) (n++eqB++v)=Oe false n v m:=by
 unfold Qv Oe
 cases hmk:Eb m with
 |false=>rfl
 | true =>
  have hnm:¬Av m=n++eqB++v:=by
   intro e;have h1:=Ld (Rc hmk);rw[e,Xb hn]at h1;omega
  by_cases h:Cd m<0
  .simp only[if_pos h,if_true]
   rw[Qr,decide_eq_false hnm];have hv0:¬Ff m=v:=by
    intro e;have h1:=(P.nameOk_pos hv).1;rw[<-e]at h1;unfold Ff at h1;rw[if_pos h]at h1;exact absurd h1 (by decide)
   rw[decide_eq_false hv0];simp
  simp only[if_neg h,if_true];rw[eA,decide_eq_false hnm,Bool.or_false,Bool.eq_iff_iff];simp only[Bool.true_and,Bool.false_or,Bool.and_eq_true,decide_eq_true_eq];constructor
  .intro e
   rw[e];exact⟨qC hn v,uU hn v⟩
  rintro⟨e1,e2⟩;rw[<-vJ h,e1,e2]
theorem aU{Z:List BA}{one:Bool}{nm vl x:BA}(H:∀m,It (Qv m) x=Oe one nm vl m):∀k,It (Db Z k) x=Eo Z one nm vl k
 |0=>rfl
 | k+1=>by
  unfold Db Eo
  cases h:Z[k]? with
  |none=>simp only[Bool.or_false];exact aU H k
  |some m =>
   simp only[];rw[Si,H m,aU H k,Bool.or_comm]
theorem vF(Z:List BA)(y:P.Tr)(hw:P.wf y):nOk y->Dd (Db Z Z.length) y=Ce Z y:=by
 refine P.wf_ind (p:=λy=>nOk y->Dd (Db Z Z.length) y=Ce Z y) ?_ ?_ ?_ ?_ ?_ ?_ y hw
 .intro _;rfl
 .intro n hn
  exact aU (tO (hn.2.1 rfl) · _) _
 .intro n v hn
  obtain⟨h1,h2⟩:=hn.2.2.1 rfl;exact aU (pI h1 h2) _
 .intro k _ ih hn
  show(!Dd _ k)=!Ce _ k
  rw[ih hn.2.2.2.1]
 .intro a b _ _ ia ib hn
  show(Dd _ a&&Dd _ b)=(Ce _ a&&Ce _ b)
  rw[ia hn.2.2.2.1,ib hn.2.2.2.2]
 intro a b _ _ ia ib hn;show(Dd _ a||Dd _ b)=(Ce _ a||Ce _ b)
 rw[ia hn.2.2.2.1,ib hn.2.2.2.2]
theorem bJ(t:BA)(ms:List BA)(z:BA):Ch t ms z=Il t ms z:=by
 unfold Ch Il;by_cases h:Ap t=0
 .obtain⟨hw,hn,_,_⟩:=Ll h
  rcases hn with e|hn
  .rw[e];rfl
  rw[vF _ _ hw hn]
 rw[decide_eq_false h];rfl
def Cy(f:Nat->Bool):Nat->Bool
 |0=>false
 |k+1=>Cy f k||f k
theorem Ew{f:Nat->Bool}{k:Nat}(h:f k=true):Cy f (k+1)=true:=by simp[Cy,h]
theorem Bu{f:Nat->Bool}{k:Nat}(h:f k=false):Cy f (k+1)=Cy f k:=by simp[Cy,h]
theorem Et{f:Nat->Bool}{k:Nat}:∀n,k<=n->Cy f k=true->Cy f n=true
 |0,h,e=>by
  have:k=0:=by omega
  subst this;exact e
 |n+1,h,e=>by
  by_cases hk:k=n+1
  .subst hk;exact e
  simp[Cy,Et n (by omega) e]
def Ca(x:Flt)(ci:Nat)(nm:BA):Nat->Int
 |0=>0
 |k+1=>Ca x ci nm k+(match x.copies[k]? with
  |some c=>if c.at_=nm/\k≠ci then c.hold else 0
  |none=>0)
def Bg(x:Flt)(ci:Nat)(nm:BA):Nat->Int
 |0=>0
 |k+1=>Bg x ci nm k+(match x.copies[k]? with
  |some c=>if c.at_=nm/\k≠ci then 1 else 0
  |none=>0)
theorem qQ{x:Flt}{ci k:Nat}{nm:BA}{c:Cpy}(hk:x.copies[k]?=some c)(h1:c.at_=nm)(h2:k≠ci):Ca x ci nm (k+1)=Ca x ci nm k+c.hold:=by
 simp only[Ca,hk];rw[if_pos ⟨h1,h2⟩]
theorem Wz{x:Flt}{ci k:Nat}{nm:BA}{c:Cpy}(hk:x.copies[k]?=some c)(h:¬(c.at_=nm/\k≠ci)):Ca x ci nm (k+1)=Ca x ci nm k:=by
 simp only[Ca,hk];rw[if_neg h];omega
theorem iG{x:Flt}{ci k:Nat}{nm:BA}{c:Cpy}(hk:x.copies[k]?=some c)(h1:c.at_=nm)(h2:k≠ci):Bg x ci nm (k+1)=Bg x ci nm k+1:=by
 simp only[Bg,hk];rw[if_pos ⟨h1,h2⟩]
theorem Sf{x:Flt}{ci k:Nat}{nm:BA}{c:Cpy}(hk:x.copies[k]?=some c)(h:¬(c.at_=nm/\k≠ci)):Bg x ci nm (k+1)=Bg x ci nm k:=by
 simp only[Bg,hk];rw[if_neg h];omega
theorem Sa{x:Flt}(ci:Nat)(nm:BA)(hc:∀(k:Nat) (c:Cpy),x.copies[k]?=some c->0<=c.hold/\c.hold<=1000):∀k,0<=Ca x ci nm k/\Ca x ci nm k<=1000*k
 |0=>by simp[Ca]
 | k+1=>by
  have ih:=Sa ci nm hc k;simp only[Ca]
  cases h:x.copies[k]? with
  |none=>simp only;omega
  |some c =>
   have h1:=hc k c h;simp only
   split<;>omega
theorem Ur{x:Flt}(ci:Nat)(nm:BA):∀k:Nat,0<=Bg x ci nm k/\Bg x ci nm k<=k
 |0=>by simp[Bg]
 | k+1=>by
  have ih:=Ur (x:=x) ci nm k;simp only[Bg]
  cases h:x.copies[k]? with
  |none=>simp only;omega
  |some c =>
   simp only
   split<;>omega
theorem Qu{x:Flt}(ci:Nat)(nm:BA)(hc:∀(k:Nat) (c:Cpy),x.copies[k]?=some c->0<=c.hold/\c.hold<=1000):∀k,k<=60->(Bd x.copies nm ci k).2.2=Ca x ci nm k
 |0,_=>rfl
 | k+1,hk=>by
  have ih:=Qu ci nm hc k (by omega);have hb:=Sa ci nm hc k;unfold Bd Ca
  cases h:x.copies[k]? with
  |none=>simp only;omega
  | some c =>
   have h1:=hc k c h;simp only;by_cases e:c.at_=nm/\k≠ci
   .rw[if_pos e,if_pos ⟨e.1,by omega⟩]
    simp only;rw[ih];unfold wrap64;omega
   rw[if_neg e,if_neg (λh=>e ⟨h.1,by omega⟩)];omega
theorem Nr{x:Flt}(ci:Nat)(nm:BA):∀k,k<=60->(Bd x.copies nm ci k).1=Bg x ci nm k
 |0,_=>rfl
 | k+1,hk=>by
  have ih:=Nr (x:=x) ci nm k (by omega);have hb:=Ur (x:=x) ci nm k;unfold Bd Bg
  cases h:x.copies[k]? with
  |none=>simp only;omega
  | some c =>
   simp only;by_cases e:c.at_=nm/\k≠ci
   .rw[if_pos e,if_pos ⟨e.1,by omega⟩]
    simp only;rw[ih];unfold wrap64;omega
   rw[if_neg e,if_neg (λh=>e ⟨h.1,by omega⟩)];omega
theorem Dw{x:Flt}(h:Bb x=true):(∀(k:Nat)(c:Cpy),x.copies[k]?=some c->(0<=c.hold/\c.hold<=1000)/\(0<=c.apart/\c.apart<=2))/\∀(k:Nat)(b:Brt),x.berths[k]?=some b->0<=b.hold/\b.hold<=1000:=by
 unfold Bb at h;simp only[Bool.and_eq_true,Dn,En,Cc,Br,Hr,decide_eq_true_eq]at h;obtain⟨⟨⟨_,_⟩,_⟩,⟨⟨_,_⟩,_⟩,h2,_,h3,_⟩:=h;refine⟨λk c hc=>?_,λk b hb=>?_⟩
 .have h4:=h3 k c hc
  simp only[Gn,Cj,Bool.and_eq_true,Bool.or_eq_true,inR,decide_eq_true_eq]at h4;obtain⟨⟨_,_⟩,h6⟩:=h4;exact⟨h6.1.1.1.1.1.2,h6.1.1.2⟩
 have h4:=h2 k b hb;simp only[Gk,Bool.and_eq_true,inR,decide_eq_true_eq]at h4;exact h4.1.2
def Ls(a c:Int)(hb hz:Bool):Bool:=(hb&&(decide (a≠0)||decide (c≠0)))||(hz&&(decide (a=2)||decide (c=2)))
def Ov(x:Flt)(ci:Nat)(y:Cpy)(b:Brt)(i:Nat):Bool:=match x.copies[i]? with
 |some c=>decide (i≠ci)&&decide (c.service=y.service)&&decide (¬c.at_=⟨#[]⟩)&&Ls c.apart y.apart (decide (c.at_=b.name)) (decide (Cu x.berths c.at_=b.zone))
 |none=>false
def stF(x:Flt)(ci:Nat)(sv:BA)(i:Nat):Bool:=match x.copies[i]? with
 |some c=>decide (i≠ci)&&decide (c.service=sv)&&decide (¬c.at_=⟨#[]⟩)
 |none=>false
theorem Jo{x:Flt}{ci k:Nat}{y:Cpy}{b:Brt}{c:Cpy}(hk:x.copies[k]?=some c)(h:¬(k≠ci/\c.service=y.service/\(¬c.at_=⟨#[]⟩)/\Ls c.apart y.apart (decide (c.at_=b.name)) (decide (Cu x.berths c.at_=b.zone))=true)):Ov x ci y b k=false:=by
 unfold Ov;rw[hk];simp only[Bool.and_eq_false_iff,decide_eq_false_iff_not];by_cases h1:k≠ci
 .by_cases h2:c.service=y.service
  .by_cases h3:¬c.at_=⟨#[]⟩
   .exact Or.inr (by
     cases hn:Ls c.apart y.apart (decide (c.at_=b.name)) (decide (Cu x.berths c.at_=b.zone))with
     |false=>rfl
     |true=>exact absurd ⟨h1,h2,h3,hn⟩ h)
   exact Or.inl (Or.inr h3)
  exact Or.inl (Or.inl (Or.inr h2))
 exact Or.inl (Or.inl (Or.inl h1))
theorem Pp{x:Flt}{ci k:Nat}{y:Cpy}{b:Brt}{c:Cpy}(hk:x.copies[k]?=some c)(h1:k≠ci)(h2:c.service=y.service)(h3:¬c.at_=⟨#[]⟩)(h4:Ls c.apart y.apart (decide (c.at_=b.name)) (decide (Cu x.berths c.at_=b.zone))=true):Ov x ci y b k=true:=by
 unfold Ov;rw[hk];simp only[Bool.and_eq_true,decide_eq_true_eq];exact⟨⟨⟨h1,h2⟩,h3⟩,h4⟩
theorem eU{x:Flt}{ci k:Nat}{sv:BA}{c:Cpy}(hk:x.copies[k]?=some c)(h:¬(k≠ci/\c.service=sv/\¬c.at_=⟨#[]⟩)):stF x ci sv k=false:=by
 unfold stF;rw[hk];simp only[Bool.and_eq_false_iff,decide_eq_false_iff_not];by_cases h1:k≠ci
 .by_cases h2:c.service=sv
  .exact Or.inr (λh3=>h ⟨h1,h2,h3⟩)
  exact Or.inl (Or.inr h2)
 exact Or.inl (Or.inl h1)
theorem tH{x:Flt}{ci k:Nat}{sv:BA}{c:Cpy}(hk:x.copies[k]?=some c)(h1:k≠ci)(h2:c.service=sv)(h3:¬c.at_=⟨#[]⟩):stF x ci sv k=true:=by
 unfold stF;rw[hk];simp only[Bool.and_eq_true,decide_eq_true_eq];exact⟨⟨h1,h2⟩,h3⟩
def Jr(x:Flt)(ci:Nat)(y:Cpy)(b:Brt):Bool:=Cy (Ov x ci y b) x.copies.length
def Ib(x:Flt)(ci:Nat)(y:Cpy)(b:Brt):Bool:=decide (¬y.near=⟨#[]⟩)&&(!Cy (znF x ci y.near b.zone) x.copies.length)&&(Cy (stF x ci y.near) x.copies.length||decide (¬y.near=y.service))
def Ir(y:Cpy)(b:Brt):Bool:=decide (¬y.fixed=⟨#[]⟩)&&decide (¬y.fixed=b.name)
def Cs(x:Flt)(ci:Nat)(y:Cpy)(b:Brt)(op:Bool):Int :=
 if (b.closed&&!op)=true then 1 else if Ir y b=true then 2 else if Ch y.select b.marks b.zone=false then 3 else if Jr x ci y b=true then 4 else if Ib x ci y b=true then 5 else if 10<=Bg x ci b.name x.copies.length then 6 else if b.room<Bl x ci b.name x.copies.length+y.room then 7 else if b.hold<Ca x ci b.name x.copies.length+y.hold then 8 else 0
theorem mC{x:Flt}{ci:Nat}{y:Cpy}{b:Brt}(h:y.near=⟨#[]⟩):Ib x ci y b=false:=by
 unfold Ib;rw[decide_eq_false (λk=>k h)];rfl
theorem nC{x:Flt}{ci:Nat}{y:Cpy}{b:Brt}(h:Cy (znF x ci y.near b.zone) x.copies.length=true):Ib x ci y b=false:=by
 unfold Ib;rw[h];simp
theorem jB{x:Flt}{ci:Nat}{y:Cpy}{b:Brt}{f0 q:Bool}(h1:¬y.near=⟨#[]⟩)(h2:Cy (znF x ci y.near b.zone) x.copies.length=false)(h3:Cy (stF x ci y.near) x.copies.length=q)(h4:f0=decide (¬y.near=y.service)):Ib x ci y b=(f0||q):=by
 unfold Ib;rw[h2,h3,<-h4,decide_eq_true h1];cases f0<;>cases q<;>rfl
end Go.Proofs.YthboopnmbglkjaaGreat
