import Derived.Test.YthboopnmbglkjaaGreatMwo
import Derived.Test.YthboopnmbglkjaaGreatJ46
set_option maxHeartbeats 2000000
namespace Go.Proofs.YthboopnmbglkjaaGreat
open Tryz
set_option maxRecDepth 100000
open Go.RowKit Tryz
theorem StrC.cells{lo:Nat}{w:World}{f:Nat->Option Value}{x:BA}(h:StrC lo w f x)(i:Nat)(hi:i<1):∃u,f i=some u:=by
 rw[show i=0 by omega];exact⟨_,h.1⟩
theorem LikC.cells{lo:Nat}{w:World}{f:Nat->Option Value}{x:Lik}(h:LikC lo w f x)(i:Nat)(hi:i<2):∃u,f i=some u:=by
 obtain⟨h0,h1,_⟩:=h;rcases(by omega:i=0\/i=1)with rfl|rfl
 .exact⟨_,h0⟩
 exact⟨_,h1⟩
theorem EnW.of{β:Type}{C:Eh β}{m base:Nat}{w:World}{b o:Nat}{xs:List β}(hX:∀(lo:Nat) (w:World) (f:Nat->Option Value) (x:β),C lo w f x->∀i,i<m->∃u,f i=some u)(hm:0<m)(hb:0<base)(h:SliceC C m base w (O b o) xs)(hne:xs≠[]):EnW w b o (xs.length*m):=by
 refine⟨λt ht=>?_,λp=>h.frz hne hb p⟩;have hq:t/m<xs.length:=Nat.div_lt_of_lt_mul (by rw[Nat.mul_comm];exact ht);obtain⟨x,hx⟩:∃x,xs[t/m]?=some x:=⟨xs[t/m],gE hq⟩;obtain⟨b',o',e,_,_,hc⟩:=h.at hx;cases e
 obtain⟨u,hu⟩:=hX _ _ _ _ hc (t%m) (Nat.mod_lt _ hm);refine⟨u,?_⟩;have he:o+t/m*m+t%m=o+t:=by have:=Nat.div_add_mod t m;rw[Nat.mul_comm]at this;omega
 have hu2:w.cell? (E b (o+t/m*m+t%m))=some u:=hu;rw[he]at hu2;exact hu2
section
variable {α β:Type} {V:α->Value->List Value} {sub:α->List β} {C:Eh β} {m n f:Nat}
theorem AnW.of{T:TypeId}{base g q:Nat}{w:World}{l:List α}(hX:∀(lo:Nat) (w:World) (f:Nat->Option Value) (x:β),C lo w f x->∀i,i<m->∃u,f i=some u)(hm:0<m)(hV:∀x s,(V x s).length=n)(hf:∀x s,(V x s)[f]?=some s)(hb:0<base)(h:OwnA V sub C m n f T base w (sP g 0 l.length q) l) :
  ∃(ea:Nat->OA)(ns ec:Nat->Nat),AnW n f m w g l.length ea ns ec/\(∀j x,l[j]?=some x->ns j=(sub x).length)/\(∀j b o,j<l.length->0<ns j->ea j=(O b o)->base<=b/\b<w.heap.size)/\base<=g:=by
 obtain⟨cs,h1,h2,h3⟩:=h;have key:∀j:Nat,∃p:OA×Nat,∀x,l[j]?=some x->(∀i u,(V x (.slice p.1 (sub x).length p.2))[i]?=some u->cs[j*n+i]?=some u)/\SliceC C m base w p.1 (sub x)/\∀b o,p.1=(O b o)->sub x≠[]->some b≠(sP g 0 l.length q).ownBlock/\b<w.heap.size:=by
  intro j
  cases e:l[j]? with
  |none=>exact⟨(none,0),λx hx=>by cases hx⟩
  |some y =>
   obtain⟨ae,ce,q1,q2,q3⟩:=h2 j y e;exact⟨(ae,ce),λx hx=>by cases hx;exact⟨q1,q2,q3⟩⟩
 obtain⟨F,hF⟩:=Classical.axiomOfChoice key;obtain⟨hg1,hg2⟩:=h1.lt g rfl;have hl:cs.length=l.length*n:=h1.1;have el:∀j:Nat,j<l.length->∃x,l[j]?=some x:=λj hj=>⟨l[j],gE hj⟩
 have nse:∀(j:Nat)(x:α),l[j]?=some x->((l[j]?).elim 0 (λx=>(sub x).length))=(sub x).length:=λj x hx=>by rw[hx];rfl
 have fld:∀(j:Nat)(x:α),l[j]?=some x->cs[j*n+f]?=some (.slice (F j).1 (sub x).length (F j).2):=λj x hx=>(hF j x hx).1 f _ (hf x _)
 have hfn:∀x:α,f<n:=λx=>by have:=Af (hf x (.slice none 0 0));rwa [hV]at this
 refine⟨λj=>(F j).1,λj=>(l[j]?).elim 0 (λx=>(sub x).length),λj=>(F j).2,⟨hg2,λp hp=>⟨_,(h1.cellAt p hp).trans (gE (by omega))⟩,λp=>h1.frozenAt p,λj hj=>?_,λj hj=>?_,λi j b o b' o' hij hj hi hjn ei ej=>?_⟩,nse,λj b o hj hn e=>?_,hg1⟩
 .obtain⟨x,hx⟩:=el j hj
  have hlt:j*n+f<l.length*n:=by
   have h5:(j+1)*n<=l.length*n:=Nat.mul_le_mul_right n (by omega);rw[Nat.add_mul]at h5;have:=hfn x;omega
  rw[h1.cellAt (j*n+f) hlt,fld j x hx];simp only[nse j x hx]
 .obtain⟨x,hx⟩:=el j hj
  simp only[nse j x hx];by_cases hs:sub x=[]
  .exact .inl (by rw[hs];rfl)
  obtain⟨_,q2,q3⟩:=hF j x hx;rcases q2.2 with h9|⟨b,o,e,_,hbl,_⟩
  .exact absurd h9 hs
  refine .inr ⟨b,o,e,λe2=>?_,hbl,?_⟩
  .exact(q3 b o e hs).1 (by rw[e2];rfl)
  rw[e]at q2;exact EnW.of hX hm hb q2 hs
 .obtain⟨x,hx⟩:=el i (by omega)
  obtain⟨y,hy⟩:=el j hj;simp only[nse i x hx]at hi;simp only[nse j y hy]at hjn;have c1:=fld i x hx;have c2:=fld j y hy;rw[ei]at c1;rw[ej]at c2;exact h3 i j b o _ _ b' o' _ _ hij hj c1 c2 hi hjn
 obtain⟨x,hx⟩:=el j hj;simp only[nse j x hx]at hn;obtain⟨_,q2,_⟩:=hF j x hx;rcases q2.2 with h9|⟨b',o',e',⟨h8,_⟩,h7,_⟩
 .rw[h9]at hn;cases hn
 have e2:(F j).1=(O b o):=e;rw[e2]at e';cases e'
 exact⟨h8,h7⟩
end
def KpI(lo hi:Nat)(a b:World):Prop:=a.heap.size<=b.heap.size/\∀x,lo<=x->x<hi->x<a.heap.size->∀o,b.cell? (E x o)=a.cell? (E x o)/\b.frozen? (E x o)=a.frozen? (E x o)
theorem KpI.refl(lo hi:Nat)(a:World):KpI lo hi a a:=⟨Nat.le_refl _,λ_ _ _ _ _=>⟨rfl,rfl⟩⟩
theorem KpI.trans{lo hi:Nat}{a b c:World}(h:KpI lo hi a b)(k:KpI lo hi b c):KpI lo hi a c:=⟨lT h.1 k.1,λx h1 h2 h3 o=>⟨(k.2 x h1 h2 (lL h3 h.1) o).1.trans (h.2 x h1 h2 h3 o).1,(k.2 x h1 h2 (lL h3 h.1) o).2.trans (h.2 x h1 h2 h3 o).2⟩⟩
theorem KpI.below{lo hi:Nat}{a b:World}(h:bW a b):KpI lo hi a b:=⟨h.size,λx _ _ h3 o=>⟨h.cell (p:=(E x o)) h3,h.frozen (p:=(E x o)) h3⟩⟩
theorem KpI.keeps{lo hi l:Nat}{a b:World}(h:Keeps l a b)(hl:l<=lo):KpI lo hi a b:=⟨h.1,λx h1 _ h3 o=>h.2 x o (lT hl h1) h3⟩
theorem KpI.cell{lo hi b o:Nat}{a c:World}(h:KpI lo hi a c)(h1:lo<=b)(h2:b<hi)(h3:b<a.heap.size):c.cell? (E b o)=a.cell? (E b o):=(h.2 b h1 h2 h3 o).1
theorem KpI.frozen{lo hi b o:Nat}{a c:World}(h:KpI lo hi a c)(h1:lo<=b)(h2:b<hi)(h3:b<a.heap.size):c.frozen? (E b o)=a.frozen? (E b o):=(h.2 b h1 h2 h3 o).2
structure Out (lo hi:Nat) (a b:World):Prop where
 os:b.os=a.os
 tape:b.tape=a.tape
 output:b.output=a.output
 size:a.heap.size<=b.heap.size
 block:∀x,x<a.heap.size->x<lo\/hi<=x->b.heap[x]?=a.heap[x]?
theorem Out.of_below{lo hi:Nat}{a b:World}(h:bW a b):Out lo hi a b:=⟨h.os,h.tape,h.output,h.size,λx hx _=>h.block x hx⟩
theorem Out.trans{lo hi:Nat}{a b c:World}(h:Out lo hi a b)(k:Out lo hi b c):Out lo hi a c:=⟨k.os.trans h.os,k.tape.trans h.tape,k.output.trans h.output,lT h.size k.size,λx hx ho=>(k.block x (lL hx h.size) ho).trans (h.block x hx ho)⟩
theorem Out.wide{lo hi lo' hi':Nat}{a b:World}(h:Out lo hi a b)(h1:lo'<=lo)(h2:hi<=hi'):Out lo' hi' a b:=⟨h.os,h.tape,h.output,h.size,λx hx ho=>h.block x hx (by omega)⟩
theorem Out.kpi{lo hi lo' hi':Nat}{a b:World}(h:Out lo hi a b)(hd:hi<=lo'\/hi'<=lo):KpI lo' hi' a b:=⟨h.size,λx h1 h2 h3 o=>⟨World.cell?_of_block (a:=(E x o)) (h.block x h3 (by omega)),World.frozen?_of_block (a:=(E x o)) (h.block x h3 (by omega))⟩⟩
theorem Out.bel{lo hi:Nat}{a b:World}(h:Out lo hi a b)(hl:lo<=a.heap.size):Below lo a b:=⟨h.os,h.tape,h.output,h.size,λk hk=>h.block k (by omega) (.inl hk)⟩
theorem Wr.out{L:List (Nat×Nat×Nat)}{a b:World}{lo hi:Nat}(h:Wr L a b)(hl:∀x p c,(x,p,c)∈L->lo<=x/\x<hi):Out lo hi a b:=⟨h.os,h.tape,h.output,h.size,λx hx ho=>h.block x hx (λp c hm=>by have:=hl x p c hm;omega)⟩
theorem Mk.kpi{L:List (Nat×Nat×Nat)}{a b:World}{lo hi k:Nat}(h:Mk a L k)(hk:KpI lo hi a b)(hl:∀x p c,(x,p,c)∈L->lo<=x/\x<hi):Mk b L k:=λj x p c hj=>by
 have h1:=h j x p c hj;have h2:=hl x p c (List.mem_of_getElem? hj);exact(hk.cell h2.1 h2.2 (block_lt_of_cell h1)).trans h1
def LA(mf hf:FuncId)(v:Value)(W:World)(lo hi len:Nat):Prop :=
 ∀(w:World)(k:Nat),KpI lo hi W w->0<k->k+len<=1073741824->Calls prog mf #[v,X (k:Int)] w λe w'=>e=.returned (X ((k+len:Nat):Int))/\Out lo hi w w'/\∀w2,KpI lo hi w' w2->Calls prog hf #[v,X (k:Int)] w2 λe w3=>e=.returned (X ((k+len:Nat):Int))/\bW w2 w3
theorem qV(a:OA)(cap T:Nat)(w:World) :
  Calls prog 32 #[.slice a 0 cap,X (T:Int)] w (Rt (X (T:Int)) w):=by
 go_enter func32,ntmps32
 go_wp2
 go_loopw [1,5] (λv i wr=>v=X (T:Int)/\i=X 0/\wr=w) (λ_ _ _=>0)
 case atStart=>exact⟨rfl,rfl,rfl⟩
 obtain⟨rfl,rfl,rfl⟩:=hrel
 go_wp2
 go_ret;exact⟨rfl,Below.refl _ _⟩
theorem qH(a:OA)(cap T:Nat)(w:World) :
  Calls prog 37 #[.slice a 0 cap,X (T:Int)] w (Rt (X (T:Int)) w):=by
 go_enter func37,ntmps37
 go_wp2
 go_loopw [1,5] (λv i wr=>v=X (T:Int)/\i=X 0/\wr=w) (λ_ _ _=>0)
 case atStart=>exact⟨rfl,rfl,rfl⟩
 obtain⟨rfl,rfl,rfl⟩:=hrel
 go_wp2
 go_ret;exact⟨rfl,Below.refl _ _⟩
theorem LA.nilBrt(a:OA)(cap:Nat)(W:World)(lo hi:Nat):LA 32 37 (.slice a 0 cap) W lo hi 0:=by
 intro w k _ _ _;refine(qV a cap k w).mono ?_;rintro e w' ⟨rfl,hb⟩;refine⟨rfl,Out.of_below hb,λw2 _=>?_⟩;refine(qH a cap k w2).mono ?_;rintro e w3⟨rfl,hb3⟩;exact⟨rfl,hb3⟩
theorem pV(a:OA)(cap T:Nat)(w:World) :
  Calls prog 33 #[.slice a 0 cap,X (T:Int)] w (Rt (X (T:Int)) w):=by
 go_enter func33,ntmps33
 go_wp2
 go_loopw [1,5] (λv i wr=>v=X (T:Int)/\i=X 0/\wr=w) (λ_ _ _=>0)
 case atStart=>exact⟨rfl,rfl,rfl⟩
 obtain⟨rfl,rfl,rfl⟩:=hrel
 go_wp2
 go_ret;exact⟨rfl,Below.refl _ _⟩
theorem nV(a:OA)(cap T:Nat)(w:World) :
  Calls prog 38 #[.slice a 0 cap,X (T:Int)] w (Rt (X (T:Int)) w):=by
 go_enter func38,ntmps38
 go_wp2
 go_loopw [1,5] (λv i wr=>v=X (T:Int)/\i=X 0/\wr=w) (λ_ _ _=>0)
 case atStart=>exact⟨rfl,rfl,rfl⟩
 obtain⟨rfl,rfl,rfl⟩:=hrel
 go_wp2
 go_ret;exact⟨rfl,Below.refl _ _⟩
theorem LA.nilSvc(a:OA)(cap:Nat)(W:World)(lo hi:Nat):LA 33 38 (.slice a 0 cap) W lo hi 0:=by
 intro w k _ _ _;refine(pV a cap k w).mono ?_;rintro e w' ⟨rfl,hb⟩;refine⟨rfl,Out.of_below hb,λw2 _=>?_⟩;refine(nV a cap k w2).mono ?_;rintro e w3⟨rfl,hb3⟩;exact⟨rfl,hb3⟩
theorem qA(a:OA)(cap T:Nat)(w:World) :
  Calls prog 34 #[.slice a 0 cap,X (T:Int)] w (Rt (X (T:Int)) w):=by
 go_enter func34,ntmps34
 go_wp2
 go_loopw [1,5] (λv i wr=>v=X (T:Int)/\i=X 0/\wr=w) (λ_ _ _=>0)
 case atStart=>exact⟨rfl,rfl,rfl⟩
 obtain⟨rfl,rfl,rfl⟩:=hrel
 go_wp2
 go_ret;exact⟨rfl,Below.refl _ _⟩
theorem oG(a:OA)(cap T:Nat)(w:World) :
  Calls prog 39 #[.slice a 0 cap,X (T:Int)] w (Rt (X (T:Int)) w):=by
 go_enter func39,ntmps39
 go_wp2
 go_loopw [1,5] (λv i wr=>v=X (T:Int)/\i=X 0/\wr=w) (λ_ _ _=>0)
 case atStart=>exact⟨rfl,rfl,rfl⟩
 obtain⟨rfl,rfl,rfl⟩:=hrel
 go_wp2
 go_ret;exact⟨rfl,Below.refl _ _⟩
theorem LA.nilCpy(a:OA)(cap:Nat)(W:World)(lo hi:Nat):LA 34 39 (.slice a 0 cap) W lo hi 0:=by
 intro w k _ _ _;refine(qA a cap k w).mono ?_;rintro e w' ⟨rfl,hb⟩;refine⟨rfl,Out.of_below hb,λw2 _=>?_⟩;refine(oG a cap k w2).mono ?_;rintro e w3⟨rfl,hb3⟩;exact⟨rfl,hb3⟩
theorem LA.brt{W:World}{g N lo hi:Nat}{ea:Nat->OA}{ns ec:Nat->Nat}(h:AnW 6 2 1 W g N ea ns ec)(hg:lo<=g/\g<hi)(hs:∀j b o,j<N->0<ns j->ea j=(O b o)->lo<=b/\b<hi)(hN:N<=1048576)(cap:Nat):LA 32 37 (sP g 0 N cap) W lo hi (LBr g ea ns N).length:=by
 have bd:∀x p c,(x,p,c)∈LBr g ea ns N->lo<=x/\x<hi:=by
  intro x p c hm;rcases Pu hm with⟨h1,_,_⟩|⟨j,ad,h1,h2,h3,h4⟩
  .rw[h1];exact hg
  rcases h.en j h1 with e|⟨b,o,e,_⟩
  .omega
  rw[e]at h3;cases h3
  rw[h4];exact hs j b o h1 h2 e
 intro w k hk h0 h1;have hA:AnW 6 2 1 w g N ea ns ec:=by
  refine⟨lL h.lt hk.1,λp hp=>?_,λp=>(hk.frozen hg.1 hg.2 h.lt).trans (h.rfz p),λj hj=>(hk.cell hg.1 hg.2 h.lt).trans (h.sl j hj),λj hj=>?_,h.ap⟩
  .obtain⟨u,hu⟩:=h.row p hp
   exact⟨u,(hk.cell hg.1 hg.2 h.lt).trans hu⟩
  by_cases hz:ns j=0
  .exact .inl hz
  rcases h.en j hj with e|⟨b,o,e,hne,hbl,hE⟩
  .exact .inl e
  have hb:=hs j b o hj (by omega) e;exact .inr ⟨b,o,e,hne,lL hbl hk.1,λt ht=>by obtain⟨u,hu⟩:=hE.1 t ht;exact⟨u,(hk.cell hb.1 hb.2 hbl).trans hu⟩,λp=>(hk.frozen hb.1 hb.2 hbl).trans (hE.2 p)⟩
 refine(cY g N ea ns ec cap k w hA hN h0 h1).mono ?_;rintro e w' ⟨rfl,hW,hM⟩;refine⟨rfl,hW.out bd,λw2 hk2=>?_⟩;refine aQ g N ea ns ec cap k w2 (hM.kpi hk2 bd) (λj hj=>?_) (λj hj=>?_) hN h0 h1
 .exact(hk2.cell hg.1 hg.2 (lL hA.lt hW.size)).trans ((hW.cell g _ hA.lt (λc=>dK hA nL j c)).trans (hA.sl j hj))
 rcases h.en j hj with e|⟨b,o,e,_⟩
 .exact .inl e
 exact .inr ⟨b,o,e⟩
theorem LA.cpy{W:World}{g N lo hi:Nat}{ea:Nat->OA}{ns ec:Nat->Nat}(h:AnW 12 7 2 W g N ea ns ec)(hg:lo<=g/\g<hi)(hs:∀j b o,j<N->0<ns j->ea j=(O b o)->lo<=b/\b<hi)(hN:N<=1048576)(cap:Nat):LA 34 39 (sP g 0 N cap) W lo hi (LCp g ea ns N).length:=by
 have bd:∀x p c,(x,p,c)∈LCp g ea ns N->lo<=x/\x<hi:=by
  intro x p c hm;rcases Pq hm with⟨h1,_,_⟩|⟨j,ad,h1,h2,h3,h4⟩
  .rw[h1];exact hg
  rcases h.en j h1 with e|⟨b,o,e,_⟩
  .omega
  rw[e]at h3;cases h3
  rw[h4];exact hs j b o h1 h2 e
 intro w k hk h0 h1;have hA:AnW 12 7 2 w g N ea ns ec:=by
  refine⟨lL h.lt hk.1,λp hp=>?_,λp=>(hk.frozen hg.1 hg.2 h.lt).trans (h.rfz p),λj hj=>(hk.cell hg.1 hg.2 h.lt).trans (h.sl j hj),λj hj=>?_,h.ap⟩
  .obtain⟨u,hu⟩:=h.row p hp
   exact⟨u,(hk.cell hg.1 hg.2 h.lt).trans hu⟩
  by_cases hz:ns j=0
  .exact .inl hz
  rcases h.en j hj with e|⟨b,o,e,hne,hbl,hE⟩
  .exact .inl e
  have hb:=hs j b o hj (by omega) e;exact .inr ⟨b,o,e,hne,lL hbl hk.1,λt ht=>by obtain⟨u,hu⟩:=hE.1 t ht;exact⟨u,(hk.cell hb.1 hb.2 hbl).trans hu⟩,λp=>(hk.frozen hb.1 hb.2 hbl).trans (hE.2 p)⟩
 refine(aM g N ea ns ec cap k w hA hN h0 h1).mono ?_;rintro e w' ⟨rfl,hW,hM⟩;refine⟨rfl,hW.out bd,λw2 hk2=>?_⟩;refine aK g N ea ns ec cap k w2 (hM.kpi hk2 bd) (λj hj=>?_) (λj hj=>?_) hN h0 h1
 .exact(hk2.cell hg.1 hg.2 (lL hA.lt hW.size)).trans ((hW.cell g _ hA.lt (λc=>gA hA nL j c)).trans (hA.sl j hj))
 rcases h.en j hj with e|⟨b,o,e,_⟩
 .exact .inl e
 exact .inr ⟨b,o,e⟩
theorem LA.svc{W:World}{b o N lo hi:Nat}(h:EnW W b o (N*2))(hl:b<W.heap.size)(hg:lo<=b/\b<hi)(cap:Nat):LA 33 38 (sP b o N cap) W lo hi (N*2):=by
 have bd:∀x p c,(x,p,c)∈LSv (O b o) N->lo<=x/\x<hi:=by
  intro x p c hm;rw[(Tt hm).1];exact hg
 intro w k hk h0 h1;have hE:EnW w b o (N*2):=⟨λt ht=>by obtain⟨u,hu⟩:=h.1 t ht;exact⟨u,(hk.cell hg.1 hg.2 hl).trans hu⟩,λp=>(hk.frozen hg.1 hg.2 hl).trans (h.2 p)⟩;refine(dG b o N cap k w hE (lL hl hk.1) h0 h1).mono ?_;rintro e w' ⟨rfl,hW,hM⟩;exact⟨rfl,hW.out bd,λw2 hk2=>bA b o N cap k w2 (hM.kpi hk2 bd) h0 h1⟩
theorem aT{Z:World}{pk:Bool}{a1:OA}{m1 c1:Nat}{a2:OA}{m2 c2:Nat}{a3:OA}{m3 c3:Nat}{B1 B2 B3 B4 n1 n2 n3 k:Nat}(l1:∀w2,KpI B1 B2 Z w2->Calls prog 37 #[.slice a1 m1 c1,X (k:Int)] w2 λe w3=>e=.returned (X ((k+n1:Nat):Int))/\bW w2 w3)(l2:∀w2,KpI B2 B3 Z w2->Calls prog 38 #[.slice a2 m2 c2,X ((k+n1:Nat):Int)] w2 λe w3=>e=.returned (X ((k+n1+n2:Nat):Int))/\bW w2 w3)(l3:∀w2,KpI B3 B4 Z w2->Calls prog 39 #[.slice a3 m3 c3,X ((k+n1+n2:Nat):Int)] w2 λe w3=>e=.returned (X ((k+n1+n2+n3:Nat):Int))/\bW w2 w3)(h12:B1<=B2)(h23:B2<=B3)(h34:B3<=B4)(w:World)(hk:KpI B1 B4 Z w) :
  Calls prog 12 #[.agg (fgA pk a1 m1 c1 a2 m2 c2 a3 m3 c3),X (k:Int)] w λe w3=>e=.returned (X ((k+n1+n2+n3:Nat):Int))/\bW w w3:=by
 have L1:=iH l1;have L2:=iH l2;have L3:=iH l3;clear l1 l2 l3;have hB:=(Below.refl _ w).alloc nL (Obj.cells (fgA pk a1 m1 c1 a2 m2 c2 a3 m3 c3) 32);have HX:=iH (Blk.alloc w (fgA pk a1 m1 c1 a2 m2 c2 a3 m3 c3) 32);have HK:Hid (KpI B1 B2 Z w/\KpI B2 B3 Z w/\KpI B3 B4 Z w):=⟨⟨hk.1,λx h1 h2 h3=>hk.2 x h1 (by omega) h3⟩,⟨hk.1,λx h1 h2 h3=>hk.2 x (by omega) (by omega) h3⟩,⟨hk.1,λx h1 h2 h3=>hk.2 x (by omega) h2 h3⟩⟩;clear hk;go_enter func12,ntmps12;go_upto_region 1 with fail;generalize w.alloc (Obj.cells (fgA pk a1 m1 c1 a2 m2 c2 a3 m3 c3) 32)=w1 at *;have k1:w1.cell? (E w.heap.size 1)=some (.slice a1 m1 c1):=HX.out.cell rfl;go_wp2_with fail;refine(L1 w1 (HK.out.1.trans (KpI.below hB))).mono ?_;rintro e w2⟨rfl,hb⟩;have HX2:=qBk HX hb;have hB2:=qTr hB hb;clear k1 hb HX hB;obtain⟨T1,hT1⟩:∃T:Nat,T=k+n1:=⟨_,rfl⟩;rw[<-hT1]at L2 L3⊢;have HT1:=iH hT1;clear hT1;have k2:w2.cell? (E w.heap.size 2)=some (.slice a2 m2 c2):=HX2.out.cell rfl;go_wp2_with fail;refine(L2 w2 (HK.out.2.1.trans (KpI.below hB2))).mono ?_;rintro e w3⟨rfl,hb⟩;have HX3:=qBk HX2 hb;have hB3:=qTr hB2 hb;clear k2 hb HX2 hB2;obtain⟨T2,hT2⟩:∃T:Nat,T=T1+n2:=⟨_,rfl⟩;rw[<-hT2]at L3⊢;have HT2:=iH hT2;clear hT2;have k3:w3.cell? (E w.heap.size 3)=some (.slice a3 m3 c3):=HX3.out.cell rfl;go_wp2_with fail;refine(L3 w3 (HK.out.2.2.trans (KpI.below hB3))).mono ?_;rintro e w4⟨rfl,hb⟩;have hB4:=qTr hB3 hb;clear k3 hb HX3 hB3;obtain⟨T3,hT3⟩:∃T:Nat,T=T2+n3:=⟨_,rfl⟩;rw[<-hT3];have HT3:=iH hT3;clear hT3
 go_wp2
 go_ret;exact⟨by rw[show k+n1+n2+n3=T3 by have e1:=HT1.out;have e2:=HT2.out;have e3:=HT3.out;omega];rfl,hB4⟩
theorem LA.flt{W:World}{pk:Bool}{v1 v2 v3:Value}{B1 B2 B3 B4 n1 n2 n3:Nat}(s1:∃a n c,v1=.slice a n c)(s2:∃a n c,v2=.slice a n c)(s3:∃a n c,v3=.slice a n c)(l1:LA 32 37 v1 W B1 B2 n1)(l2:LA 33 38 v2 W B2 B3 n2)(l3:LA 34 39 v3 W B3 B4 n3)(h12:B1<=B2)(h23:B2<=B3)(h34:B3<=B4)(hW:B4<=W.heap.size) :
  LA 10 12 (.agg #[.bool pk,v1,v2,v3]) W B1 B4 (n1+n2+n3):=by
 obtain⟨a1,m1,c1,rfl⟩:=s1;obtain⟨a2,m2,c2,rfl⟩:=s2;obtain⟨a3,m3,c3,rfl⟩:=s3;have L1:=iH l1;have L2:=iH l2;have L3:=iH l3;clear l1 l2 l3;intro w k hk h0 h1;have hB:=(Below.refl _ w).alloc nL (Obj.cells (fgA pk a1 m1 c1 a2 m2 c2 a3 m3 c3) 32);have HX:=iH (Blk.alloc w (fgA pk a1 m1 c1 a2 m2 c2 a3 m3 c3) 32);have hws:B4<=w.heap.size:=lT hW hk.1;have HK:=iH hk;clear hk;go_enter func10,ntmps10;go_upto_region 1 with fail;generalize w.alloc (Obj.cells (fgA pk a1 m1 c1 a2 m2 c2 a3 m3 c3) 32)=w1 at *;have k1:w1.cell? (E w.heap.size 1)=some (.slice a1 m1 c1):=HX.out.cell rfl;go_wp2_with fail;refine(L1 w1 k ((KpI.trans ⟨HK.out.1,λx h1 h2 h3=>HK.out.2 x h1 (by omega) h3⟩ (KpI.below hB))) h0 (by omega)).mono ?_;rintro e w2⟨rfl,ho1,hh1⟩;have HX2:Hid (Blk w.heap.size (fgA pk a1 m1 c1 a2 m2 c2 a3 m3 c3) 32 w2):=(ho1.block _ HX.out.lt (.inr (by omega))).trans HX;have HH1:=iH hh1;have HO2:Hid (Out B1 B4 w w2):=(Out.of_below hB).trans (ho1.wide nL (by omega));have HK2:Hid (KpI B2 B4 W w2):=KpI.trans ⟨HK.out.1,λx h1 h2 h3=>HK.out.2 x (by omega) h2 h3⟩ ((KpI.below hB).trans (ho1.kpi (.inl nL)));have hs2:w1.heap.size<=w2.heap.size:=ho1.size;clear k1 ho1 hh1 HX;have hlt:w.heap.size<w2.heap.size:=HX2.out.lt;obtain⟨T1,hT1⟩:∃T:Nat,T=k+n1:=⟨_,rfl⟩;rw[<-hT1];have HT1:=iH hT1;have hTb:0<T1/\T1+n2+n3<=1073741824:=by omega
 clear hT1;have k2:w2.cell? (E w.heap.size 2)=some (.slice a2 m2 c2):=HX2.out.cell rfl;go_wp2_with fail;refine(L2 w2 T1 ⟨HK2.out.1,λx h1 h2 h3=>HK2.out.2 x h1 (by omega) h3⟩ (by omega) (by omega)).mono ?_;rintro e w3⟨rfl,ho2,hh2⟩;have HX3:Hid (Blk w.heap.size (fgA pk a1 m1 c1 a2 m2 c2 a3 m3 c3) 32 w3):=(ho2.block _ HX2.out.lt (.inr (by omega))).trans HX2;have HH2:=iH hh2;have HO3:Hid (Out B1 B4 w w3):=HO2.out.trans (ho2.wide (by omega) (by omega));have HK3:Hid (KpI B3 B4 W w3):=KpI.trans ⟨HK2.out.1,λx h1 h2 h3=>HK2.out.2 x (by omega) h2 h3⟩ (ho2.kpi (.inl nL));have HP3:Hid (KpI B1 B2 w2 w3):=ho2.kpi (.inr nL);clear k2 ho2 hh2 HX2 HK2 HO2;have hlt3:w.heap.size<w3.heap.size:=HX3.out.lt;obtain⟨T2,hT2⟩:∃T:Nat,T=T1+n2:=⟨_,rfl⟩;rw[<-hT2];have HT2:=iH hT2;have hTb2:0<T2/\T2+n3<=1073741824:=by omega
 clear hT2;have k3:w3.cell? (E w.heap.size 3)=some (.slice a3 m3 c3):=HX3.out.cell rfl;go_wp2_with fail;refine(L3 w3 T2 HK3 (by omega) (by omega)).mono ?_;rintro e w4⟨rfl,ho3,hh3⟩;have HH3:=iH hh3;have HO4:Hid (Out B1 B4 w w4):=HO3.out.trans (ho3.wide (by omega) nL);have HP4:Hid (KpI B1 B2 w2 w4/\KpI B2 B3 w3 w4):=⟨HP3.out.trans (ho3.kpi (.inr (by omega))),ho3.kpi (.inr nL)⟩;clear k3 ho3 hh3 HX3 HO3 HP3 HK3;obtain⟨T3,hT3⟩:∃T:Nat,T=T2+n3:=⟨_,rfl⟩;rw[<-hT3];have HT3:=iH hT3;have hTb3:T3<=1073741824:=by omega
 clear hT3
 go_wp2
 go_ret;have e1:=HT1.out;have e2:=HT2.out;have e3:=HT3.out;have eT:k+(n1+n2+n3)=k+n1+n2+n3:=by omega
 refine⟨by rw[show k+(n1+n2+n3)=T3 by omega];rfl,HO4,λwz hkz=>?_⟩;rw[eT];refine aT (Z:=w4) (λw5 h5=>HH1.out w5 (HP4.out.1.trans h5)) (λw5 h5=>?_) (λw5 h5=>?_) h12 h23 h34 wz hkz
 .have h:=HH2.out w5 (HP4.out.2.trans h5)
  rw[e1]at h;exact h
 have h:=HH3.out w5 h5;rw[e2,e1]at h;exact h
theorem LA.at{mf hf:FuncId}{v:Value}{W W':World}{lo hi len:Nat}(h:LA mf hf v W lo hi len)(hk:KpI lo hi W W'):LA mf hf v W' lo hi len:=λw k h1 h2 h3=>h w k (hk.trans h1) h2 h3
theorem LA.hi{mf hf:FuncId}{v:Value}{W:World}{lo hi hi' len:Nat}(h:LA mf hf v W lo hi len)(hh:hi<=hi'):LA mf hf v W lo hi' len:=λw k h1 h2 h3=>by
 refine(h w k ⟨h1.1,λx a b c=>h1.2 x a (by omega) c⟩ h2 h3).mono ?_;rintro e w' ⟨rfl,ho,hd⟩;exact⟨rfl,ho.wide nL hh,λw2 hk=>hd w2 ⟨hk.1,λx a b c=>hk.2 x a (by omega) c⟩⟩
theorem Zb{W:World}{g:Nat}{ea:Nat->OA}{ns ec:Nat->Nat}{l:List Brt}(h:AnW 6 2 1 W g l.length ea ns ec)(hn:∀(j:Nat) (x:Brt),l[j]?=some x->ns j=x.marks.length):∀J,J<=l.length->(LBr g ea ns J).length=5*J+1*((l.take J).map (λx=>x.marks.length)).sum
 |0,_=>rfl
 |J+1,hJ=>by
  obtain⟨x,hx⟩:∃x,l[J]?=some x:=⟨l[J]'(by omega),gE (by omega)⟩;have h1:=Zb h hn J (by omega);have h2:=mZ h (J:=J) (by omega);have h3:=Eg (λx:Brt=>x.marks.length) l J x hx;have h4:=hn J x hx;simp only[LBr,List.length_append,List.length_cons,List.length_nil];omega
theorem Zj:∀l:List Brt,(l.map (λx=>x.marks.length)).sum<=(l.map Cn).sum
 |[]=>Nat.le_refl _
 |x::r=>by
  have h1:=Zj r;have h2:x.marks.length<=Cn x:=by unfold Cn wS;omega
  simp only[List.map_cons,List.sum_cons];omega
theorem aA{W:World}{g:Nat}{ea:Nat->OA}{ns ec:Nat->Nat}{l:List Cpy}(h:AnW 12 7 2 W g l.length ea ns ec)(hn:∀(j:Nat) (x:Cpy),l[j]?=some x->ns j=x.likes.length):∀J,J<=l.length->(LCp g ea ns J).length=11*J+2*((l.take J).map (λx=>x.likes.length)).sum
 |0,_=>rfl
 |J+1,hJ=>by
  obtain⟨x,hx⟩:∃x,l[J]?=some x:=⟨l[J]'(by omega),gE (by omega)⟩;have h1:=aA h hn J (by omega);have h2:=eV h (J:=J) (by omega);have h3:=Eg (λx:Cpy=>x.likes.length) l J x hx;have h4:=hn J x hx;simp only[LCp,List.length_append,List.length_cons,List.length_nil];omega
theorem Yk:∀l:List Cpy,(l.map (λx=>x.likes.length)).sum<=(l.map Cr).sum
 |[]=>Nat.le_refl _
 |x::r=>by
  have h1:=Yk r;have h2:x.likes.length<=Cr x:=by unfold Cr wS;omega
  simp only[List.map_cons,List.sum_cons];omega
theorem nW{l:List Brt}{base top q:Nat}{a:OA}{w:World}(hb:0<base)(hN:l.length<=1048576)(h:OwnT vBr Brt.marks StrC 1 6 2 92 base top w (.slice a l.length q) l):∃len,len<=12*wS Cn l/\LA 32 37 (.slice a l.length q) w base top len:=by
 obtain⟨W,hA,hW,hk⟩:=h;obtain⟨cs,h1,h2,h3⟩:=hA;rcases h1.2 with⟨hv,_⟩|⟨g,cap,cur,hv,_⟩
 .have hl:l.length=0:=by injection hv
  rw[hl];exact⟨0,zL,LA.nilBrt a q w base top⟩
 have ea:a=(O g 0):=by injection hv
 subst ea;obtain⟨ea,ns,ec,hAn,hnn,hs,hg⟩:=AnW.of (λ_ _ _ _ h=>h.cells) (by omega) Pe sD hb (⟨cs,h1,h2,h3⟩:OwnA vBr Brt.marks StrC 1 6 2 92 base W (sP g 0 l.length q) l);have hc:=Zb hAn hnn l.length nL;rw[List.take_length]at hc;have hu:=Zj l;have hw:wS Cn l=l.length+(l.map Cn).sum:=rfl;refine⟨_,by omega,(LA.brt hAn ⟨hg,lL hAn.lt hW⟩ (λj b o hj hn e=>⟨(hs j b o hj hn e).1,lL (hs j b o hj hn e).2 hW⟩) hN q).at ⟨hk.1,λx h1 _ h3 o=>⟨World.cell?_of_block (a:=(E x o)) (hk.2 x h1 h3),World.frozen?_of_block (a:=(E x o)) (hk.2 x h1 h3)⟩⟩⟩
theorem oW{l:List Cpy}{base q:Nat}{a:OA}{w:World}(hb:0<base)(hN:l.length<=1048576)(h:Sj base w (.slice a l.length q) l):∃len,len<=12*wS Cr l/\LA 34 39 (.slice a l.length q) w base w.heap.size len:=by
 obtain⟨cs,h1,h2,h3⟩:=h;rcases h1.2 with⟨hv,_⟩|⟨g,cap,cur,hv,_⟩
 .have hl:l.length=0:=by injection hv
  rw[hl];exact⟨0,zL,LA.nilCpy a q w base _⟩
 have ea:a=(O g 0):=by injection hv
 subst ea;obtain⟨ea,ns,ec,hAn,hnn,hs,hg⟩:=AnW.of (λ_ _ _ _ h=>h.cells) (by omega) Iz uK hb (⟨cs,h1,h2,h3⟩:OwnA vCp Cpy.likes LikC 2 12 7 54 base w (sP g 0 l.length q) l);have hc:=aA hAn hnn l.length nL;rw[List.take_length]at hc;have hu:=Yk l;have hw:wS Cr l=l.length+(l.map Cr).sum:=rfl;exact⟨_,by omega,LA.cpy hAn ⟨hg,hAn.lt⟩ hs hN q⟩
theorem iA{l:List Svc}{base top q:Nat}{a:OA}{w:World}(h:w.ownsRow base 88 2 (.slice a l.length q) l.length (Ds l))(ht:∀b,(Value.slice a l.length q).ownBlock=some b->b<top):∃len,len<=12*wS Dj l/\LA 33 38 (.slice a l.length q) w base top len:=by
 rcases h.2 with⟨hv,_⟩|⟨g,cap,cur,hv,_⟩
 .have hl:l.length=0:=by injection hv
  rw[hl];exact⟨0,zL,LA.nilSvc a q w base top⟩
 have ea:a=(O g 0):=by injection hv
 subst ea;obtain⟨hg1,hg2⟩:=h.lt g rfl;refine⟨_,by have hw:wS Dj l=l.length+(l.map Dj).sum:=rfl;omega,LA.svc ⟨λt ht=>?_,λp=>h.frozenAt p⟩ hg2 ⟨hg1,ht g rfl⟩ q⟩;have hl:=Fq l;refine⟨(Ds l)[t]'(by omega),?_⟩;rw[Nat.zero_add];exact(h.cellAt t ht).trans (gE (by omega))
theorem NwRes.la{x:Flt}{w w':World}{e:Ending}(h:NwRes x w e w')(hlb:x.berths.length<=1048576)(hlc:x.copies.length<=1048576):∃(v:Value)(B len:Nat),e=.returned v/\w.heap.size<=B/\B<=w'.heap.size/\len<=12*Ei x/\LA 10 12 v w' B w'.heap.size len:=by
 obtain⟨g1,q1,g2,q2,g3,q3,B1,B2,B3,he,h0,h1,h2,h3,h4,hT,_,hs,ht,hc,_⟩:=h;obtain⟨n1,b1,l1⟩:=nW h0 hlb hT;obtain⟨n2,b2,l2⟩:=iA hs ht;obtain⟨n3,b3,l3⟩:=oW (by omega) hlc hc;exact⟨_,B1,_,he,h1,by omega,by unfold Ei;omega,LA.flt ⟨_,_,_,rfl⟩ ⟨_,_,_,rfl⟩ ⟨_,_,_,rfl⟩ l1 l2 l3 h2 h3 h4 nL⟩
def LSt(a:OA)(n:Nat):List (Nat×Nat×Nat):=match a with
 |some ad=>(List.range n).flatMap (λt=>[(ad.block,ad.off+t*3,0),(ad.block,ad.off+t*3+1,0)])
 |none=>[]
theorem Qx(a:OA):LSt a 0=[]:=by cases a<;>rfl
theorem Kd(b o n:Nat):LSt (O b o) (n+1)=LSt (O b o) n++[(b,o+n*3,0),(b,o+n*3+1,0)]:=by
 show List.flatMap _ _=List.flatMap _ _++_
 rw[List.range_succ,List.flatMap_append];simp
theorem Jh(b o:Nat):∀n,(LSt (O b o) n).length=n*2
 |0=>rfl
 |n+1=>by
  rw[Kd,List.length_append,Jh b o n];simp only[List.length_cons,List.length_nil];omega
theorem Qy{b o x p c:Nat}:∀{n:Nat},(x,p,c)∈LSt (O b o) n->x=b/\o<=p/\p<o+n*3
 |0,h=>by rw[Qx]at h;cases h
 | n+1,h=>by
  rw[Kd,List.mem_append]at h;rcases h with h|h
  .have:=Qy h
   omega
  simp at h;omega
theorem cK(b o n cap k:Nat)(w:World)(hE:EnW w b o (n*3))(hG:∀j,j<n->w.cell? (E b (o+j*3+2))=some (.slice none 0 0))(hb0:b<w.heap.size)(h0:0<k)(h1:k+n*2<=1073741824) :
  Calls prog 11 #[sP b o n cap,X k] w λe w'=>e=.returned (X ((k+n*2:Nat):Int))/\Wr (LSt (O b o) n) w w'/\Mk w' (LSt (O b o) n) k:=by
 replace hE:=iH hE;have HG:=iH hG;clear hG;have hbl:=hb0;go_enter func11,ntmps11
 go_wp2
 go_loopw [1,5] (λv i wr=>∃j:Nat,j<=n/\i=X j/\v=X ((k+j*2:Nat):Int)/\Hid (Wr (LSt (O b o) j) w wr)/\Hid (Mk wr (LSt (O b o) j) k)) (λ_ i _=>n-(intOf i).toNat)
 case atStart=>exact⟨0,zL,rfl,by simp,by rw[Qx];exact Wr.refl _,by rw[Qx];exact Mk.nil _ _⟩
 obtain⟨j,hj,rfl,rfl,hW,hM⟩:=hrel;by_cases hlt:j<n
 .have i0:(0:Int)<=(j:Int):=by omega
  have i1:(j:Int)<(n:Int):=by omega
  obtain⟨T0,hT0⟩:∃T:Nat,T=k+j*2:=⟨_,rfl⟩;rw[<-hT0];have hTb:0<T0/\T0+2<=1073741824:=by omega
  have HT0:=iH hT0;clear hT0;go_wp2_with fail;refine(Ao T0 _ (by omega) (by omega)).mono ?_;rintro e wa0⟨rfl,hb⟩;replace hW:=iH (hW.out.below hb);replace hM:=iH (hM.out.below hb);clear hb;obtain⟨u0,d0⟩:∃u,wa0.cell? (E b (o+j*3))=some u:=(hE.out.wr hW.out hbl).1 (j*3) (by omega);have g0:wa0.frozen? (E b (o+j*3))=false:=(hE.out.wr hW.out hbl).2 _;have hM0:Mk (wa0.setCell (E b (o+j*3)) (Y (Bp T0))) (LSt (O b o) j++[(b,o+j*3,0)]) k:=hM.out.set (λc' hm=>by have:=Qy hm;omega) d0 (by rw[Jh];show _=mvK 0 _;rw[<-HT0.out];rfl);have hW0:=iH (hW.out.set b (o+j*3) 0 (Y (Bp T0)));go_upto_region 5 with fail;clear d0 g0 hM hW;have hM:=iH hM0;have hW:=hW0;clear hM0 hW0;generalize wa0.setCell (E b (o+j*3)) (Y (Bp T0))=wb0 at *;go_upto_region 6 with fail;obtain⟨T1,hT1⟩:∃T:Nat,T=T0+1:=⟨_,rfl⟩;rw[Aq hT1];have HT1:=iH hT1;have hTb1:0<T1/\T1+1<=1073741824:=by omega
  clear hT1;go_wp2_with fail;refine(Ao T1 _ (by omega) (by omega)).mono ?_;rintro e wa1⟨rfl,hb⟩;replace hW:=iH (hW.out.below hb);replace hM:=iH (hM.out.below hb);clear hb;obtain⟨u1,d1⟩:∃u,wa1.cell? (E b (o+j*3+1))=some u:=by have h:=(hE.out.wr hW.out hbl).1 (j*3+1) (by omega);rwa [<-Nat.add_assoc]at h
  have g1:wa1.frozen? (E b (o+j*3+1))=false:=(hE.out.wr hW.out hbl).2 _;have hM1:Mk (wa1.setCell (E b (o+j*3+1)) (Y (Bp T1))) ((LSt (O b o) j++[(b,o+j*3,0)])++[(b,o+j*3+1,0)]) k:=hM.out.set (λc' hm=>by simp only[List.mem_append,List.mem_cons,List.not_mem_nil,or_false]at hm;rcases hm with hm|hm<;>first|(have:=Qy hm;omega)|(simp at hm;done)|(simp at hm;omega)) d1 (by rw[List.length_append,Jh];show _=mvK 0 (k+(j*2+1));rw[show k+(j*2+1)=T1 by have e0:=HT0.out;have e1:=HT1.out;omega];rfl);have hW1:=iH (hW.out.set b (o+j*3+1) 0 (Y (Bp T1)));go_upto_region 7 with fail;clear d1 g1 hM hW;have hM:=iH hM1;have hW:=hW1;clear hM1 hW1;generalize wa1.setCell (E b (o+j*3+1)) (Y (Bp T1))=wb1 at *;go_upto_region 8 with fail;obtain⟨T2,hT2⟩:∃T:Nat,T=T1+1:=⟨_,rfl⟩;rw[Aq hT2];have HT2:=iH hT2;have hTb2:0<T2/\T2+0<=1073741824:=by omega
  clear hT2;have c2:wb1.cell? (E b (o+j*3+2))=some (.slice none 0 0):=(hW.out.cell b _ hbl (λc hm=>by simp only[List.mem_append,List.mem_cons,List.not_mem_nil,or_false]at hm;rcases hm with(hm|hm)|hm<;>first|(have:=Qy hm;omega)|(simp at hm))).trans (HG j hlt);go_wp2_with fail;refine(Li none 0 T2 _).mono ?_;rintro e w5⟨rfl,rfl⟩;have HMf:Hid (Mk w5 (LSt (O b o) (j+1)) k):=by have h:=hM.out;show Mk _ _ _;rw[Kd];simpa using h
  have HWf:Hid (Wr (LSt (O b o) (j+1)) w w5):=by have h:=hW.out;show Wr _ _ _;rw[Kd];simpa using h
  clear hM hW c2
  go_wp2
  go_roundw
  case rel=>exact⟨j+1,by omega,by go_num,by have e0:=HT0.out;have e1:=HT1.out;have e2:=HT2.out;congr 1;omega,HWf,HMf⟩
  simp[intOf];omega
 have hje:j=n:=by omega
 subst hje
 go_wp2
 go_ret;exact⟨rfl,hW.out,hM.out⟩
theorem tL{b o:Nat}:∀{n j:Nat},j<n->(LSt (O b o) n)[j*2+0]?=some (b,o+j*3,0)/\(LSt (O b o) n)[j*2+1]?=some (b,o+j*3+1,0)
 |0,_,h=>absurd h (Nat.not_lt_zero _)
 | n+1,j,h=>by
  rw[Kd];by_cases e:j=n
  .subst e
   refine⟨by rw[List.getElem?_append_right (by rw[Jh];omega),Jh,Nat.add_sub_cancel_left];rfl,by rw[List.getElem?_append_right (by rw[Jh];omega),Jh,Nat.add_sub_cancel_left];rfl⟩
  have hj:j<n:=by omega
  have hl:=Jh b o n;obtain⟨p0,p1⟩:=tL (b:=b) (o:=o) hj;refine⟨by rw[List.getElem?_append_left (by omega)];exact p0,by rw[List.getElem?_append_left (by omega)];exact p1⟩
theorem aJ(b o n cap k:Nat)(w:World)(hM:Mk w (LSt (O b o) n) k)(hG:∀j,j<n->w.cell? (E b (o+j*3+2))=some (.slice none 0 0))(h0:0<k)(h1:k+n*2<=1073741824) :
  Calls prog 13 #[sP b o n cap,X k] w (Rt (X ((k+n*2:Nat):Int)) w):=by
 have HM:=iH hM;have HG:=iH hG;clear hM hG;go_enter func13,ntmps13
 go_wp2
 go_loopw [1,5] (λv i wr=>∃j:Nat,j<=n/\i=X j/\v=X ((k+j*2:Nat):Int)/\Hid (bW w wr)) (λ_ i _=>n-(intOf i).toNat)
 case atStart=>exact⟨0,zL,rfl,by simp,Below.refl _ _⟩
 obtain⟨j,hj,rfl,rfl,hB⟩:=hrel;by_cases hlt:j<n
 .have i0:(0:Int)<=(j:Int):=by omega
  have i1:(j:Int)<(n:Int):=by omega
  obtain⟨p0,p1⟩:=tL (b:=b) (o:=o) hlt;have C0:=iH ((hB.out.cell (p:=(E b (o+j*3))) (block_lt_of_cell (HM _ b _ _ p0))).trans (HM _ b _ _ p0));have C1:=iH ((hB.out.cell (p:=(E b (o+j*3+1))) (block_lt_of_cell (HM _ b _ _ p1))).trans (HM _ b _ _ p1));clear p0 p1;obtain⟨T0,hT0⟩:∃T:Nat,T=k+j*2:=⟨_,rfl⟩;rw[<-hT0];have hTb:0<T0/\T0+2<=1073741824:=by omega
  have D0:Hid (wr.cell? (E b (o+j*3))=some (mvK 0 (T0+0))):=by show _=_;rw[C0.out];show some (mvK 0 (k+(j*2+0)))=_;rw[show k+(j*2+0)=T0+0 by omega]
  have D1:Hid (wr.cell? (E b (o+j*3+1))=some (mvK 0 (T0+1))):=by show _=_;rw[C1.out];show some (mvK 0 (k+(j*2+1)))=_;rw[show k+(j*2+1)=T0+1 by omega]
  have HT0:=iH hT0;clear hT0 C0 C1;have c0:wr.cell? (E b (o+j*3))=some (mvK 0 T0):=by have h:=D0.out;rwa [show T0+0=T0 by rfl]at h
  go_upto_region 4 with fail;refine wp_region_held_drew (S:=λwy=>wy.cell? (E b (o+j*3))=some (Y (Bp T0))) (by kernel_rfl) c0 (λhS=>?_);refine tz 0 12 (sP b o n cap) ?_;refine tz 1 13 (X (j:Int)) ?_;refine ty 2 ⟨some 14,_,_,_,_,none⟩ (pP b (o+j*3)) ?_ ?_
  .intro wy hy
   clear hy
   first|(go_simp;done)|(go_simp;intro hh;omega)|(go_simp;omega)
  refine tz 3 15 (pP b (o+j*3)) ?_;refine ty 4 ⟨some 16,_,_,_,_,none⟩ (Y (Bp T0)) ?_ ?_
  .intro wy hy
   have h9:=hy;clear hy;go_simp
  refine tz 5 17 (X ((T0:Nat):Int)) ?_;refine rd1 6 ⟨some 18,_,_,_,_,none⟩ rfl (λK hK=>?_);go_simp;refine(Ao T0 _ (by omega) (by omega)).mono ?_;rintro e wa0⟨rfl,hb1⟩;have hd:bW wr wa0:=(Below.refl _ wr).drew.trans hb1;replace hB:=qTH hB hd;replace D1:=iH ((hd.cell (p:=(E b (o+j*3+1))) (block_lt_of_cell D1)).trans D1);refine hK.out _ _ ((hd.cell (p:=(E b (o+j*3))) (block_lt_of_cell c0)).trans c0) (λhS=>?_);clear hK K hb1 hd c0 D0;refine tz 7 19 (.bool false) ?_;refine td ?_;clear hS;go_upto_region 7 with fail;obtain⟨T1,hT1⟩:∃T:Nat,T=T0+1:=⟨_,rfl⟩;rw[Aq hT1];have HT1:=iH hT1;have hTb1:0<T1/\T1+1<=1073741824:=by omega
  clear hT1;have c1:wa0.cell? (E b (o+j*3+1))=some (mvK 0 T1):=by have h:=D1.out;rwa [show T0+1=T1 by have e1:=HT1.out;omega]at h
  go_upto_region 7 with fail;refine wp_region_held_drew (S:=λwy=>wy.cell? (E b (o+j*3+1))=some (Y (Bp T1))) (by kernel_rfl) c1 (λhS=>?_);refine tz 0 22 (sP b o n cap) ?_;refine tz 1 23 (X (j:Int)) ?_;refine ty 2 ⟨some 24,_,_,_,_,none⟩ (pP b (o+j*3)) ?_ ?_
  .intro wy hy
   clear hy
   first|(go_simp;done)|(go_simp;intro hh;omega)|(go_simp;omega)
  refine tz 3 25 (pP b (o+j*3+1)) ?_;refine ty 4 ⟨some 26,_,_,_,_,none⟩ (Y (Bp T1)) ?_ ?_
  .intro wy hy
   have h9:=hy;clear hy;go_simp
  refine tz 5 27 (X ((T1:Nat):Int)) ?_;refine rd1 6 ⟨some 28,_,_,_,_,none⟩ rfl (λK hK=>?_);go_simp;refine(Ao T1 _ (by omega) (by omega)).mono ?_;rintro e wa1⟨rfl,hb1⟩;have hd:bW wa0 wa1:=(Below.refl _ wa0).drew.trans hb1;replace hB:=qTH hB hd;refine hK.out _ _ ((hd.cell (p:=(E b (o+j*3+1))) (block_lt_of_cell c1)).trans c1) (λhS=>?_);clear hK K hb1 hd c1 D1;refine tz 7 29 (.bool false) ?_;refine td ?_;clear hS;go_upto_region 10 with fail;obtain⟨T2,hT2⟩:∃T:Nat,T=T1+1:=⟨_,rfl⟩;rw[Aq hT2];have HT2:=iH hT2;clear hT2;have c2:wa1.cell? (E b (o+j*3+2))=some (.slice none 0 0):=(hB.out.cell (p:=(E b (o+j*3+2))) (block_lt_of_cell (HG j hlt))).trans (HG j hlt);go_wp2_with fail;refine(Pz none 0 T2 _).mono ?_;rintro e w5⟨rfl,hb⟩;replace hB:=qTH hB hb;clear hb c2
  go_wp2
  go_roundw
  case rel=>exact⟨j+1,by omega,by go_num,by have e0:=HT0.out;have e1:=HT1.out;have e2:=HT2.out;congr 1;omega,hB⟩
  simp[intOf];omega
 have hje:j=n:=by omega
 subst hje
 go_wp2
 go_ret;exact⟨rfl,hB.out⟩
theorem pY(a:OA)(cap T:Nat)(w:World) :
  Calls prog 11 #[.slice a 0 cap,X (T:Int)] w (Rt (X (T:Int)) w):=by
 go_enter func11,ntmps11
 go_wp2
 go_loopw [1,5] (λv i wr=>v=X (T:Int)/\i=X 0/\wr=w) (λ_ _ _=>0)
 case atStart=>exact⟨rfl,rfl,rfl⟩
 obtain⟨rfl,rfl,rfl⟩:=hrel
 go_wp2
 go_ret;exact⟨rfl,Below.refl _ _⟩
theorem nQ(a:OA)(cap T:Nat)(w:World) :
  Calls prog 13 #[.slice a 0 cap,X (T:Int)] w (Rt (X (T:Int)) w):=by
 go_enter func13,ntmps13
 go_wp2
 go_loopw [1,5] (λv i wr=>v=X (T:Int)/\i=X 0/\wr=w) (λ_ _ _=>0)
 case atStart=>exact⟨rfl,rfl,rfl⟩
 obtain⟨rfl,rfl,rfl⟩:=hrel
 go_wp2
 go_ret;exact⟨rfl,Below.refl _ _⟩
theorem tM{b o c j:Nat}:∀{n:Nat},(b,o+j*3+2,c)∈LSt (O b o) n->False
 |0,h=>by rw[Qx]at h;cases h
 |n+1,h=>by
  rw[Kd,List.mem_append]at h;rcases h with h|h
  .exact tM h
  simp at h;omega
theorem LA.steps{T:Nat}{W:World}{sa:OA}{sc:Nat}{l:List (BA×BA)}(h:W.ownsRow T 49 3 (.slice sa l.length sc) l.length (Jy l)):LA 11 13 (.slice sa l.length sc) W T W.heap.size (l.length*2):=by
 have hl:=h.1;rcases h.2 with⟨_,hn⟩|⟨g,cap,cur,h1,_⟩
 .rw[hn]
  intro w k _ _ _;refine(pY _ _ k w).mono ?_;rintro e w' ⟨rfl,hb⟩;exact⟨rfl,Out.of_below hb,λw2 _=>nQ _ _ k w2⟩
 have hg:=h.lt g (by rw[h1];rfl);injection h1 with ea _ _;subst ea;have hc:∀p v,(Jy l)[p]?=some v->W.cell? (E g p)=some v:=λp v hv=>by
  have h9:=h.cellAt p (by rw[<-hl];exact Af hv);rw[hv]at h9;exact h9
 have bd:∀x p c,(x,p,c)∈LSt (O g 0) l.length->T<=x/\x<W.heap.size:=λx p c hm=>by
  rw[(Qy hm).1];exact hg
 intro w k hk h0 h1;have hf:∀p,w.frozen? (E g p)=false:=λp=>(hk.frozen hg.1 hg.2 hg.2).trans (h.frozenAt p)
 have hd:∀p v,(Jy l)[p]?=some v->w.cell? (E g (0+p))=some v:=λp v hv=>by
  rw[Nat.zero_add];exact(hk.cell hg.1 hg.2 hg.2).trans (hc p v hv)
 have hG:∀j,j<l.length->w.cell? (E g (0+j*3+2))=some (.slice none 0 0):=λj hj=>by
  rw[Nat.add_assoc];exact hd _ _ (cR l j _ (gE hj)).2.2
 refine(cK g 0 l.length sc k w ⟨λp hp=>⟨_,hd p _ (gE (by rw[hl];exact hp))⟩,hf⟩ hG (lL hg.2 hk.1) h0 h1).mono ?_;rintro e w' ⟨rfl,hW,hM⟩;refine⟨rfl,hW.out bd,λw2 hk2=>aJ g 0 l.length sc k w2 (hM.kpi hk2 bd) (λj hj=>?_) h0 h1⟩;exact(hk2.cell hg.1 hg.2 (lL hg.2 (lT hk.1 hW.size))).trans ((hW.cell g _ (lL hg.2 hk.1) (λc hm=>tM hm)).trans (hG j hj))
theorem lP{α:Type}(f:α->Nat)(B:Nat):∀(l:List α),(∀x∈l,f x<=B)->(l.map f).sum<=l.length*B
 |[],_=>by simp
 |a::l,h=>by
  have h1:=h a (by simp);have h2:=lP f B l (λx hx=>h x (by simp[hx]));simp only[List.map_cons,List.sum_cons,List.length_cons,Nat.add_mul];omega
theorem eZ{α:Type}{f:α->Nat}{B:Nat}{l:List α}(h:∀x∈l,f x<=B):wS f l<=l.length*(B+1):=by
 have:=lP f B l h;unfold wS;rw[Nat.mul_add];omega
theorem Vn{s:BA}(h:Eb s=true):s.size<=2001:=by
 unfold Eb Av Ff at h;by_cases c:Cd s<0
 .simp only[c,if_true,Bool.and_eq_true]at h
  have:=Co h.1;omega
 simp only[c,if_false,Bool.and_eq_true,decide_false,Bool.false_or]at h;have h1:=Co h.1;have h2:=Co h.2;rw[ByteArray.size_extract]at h1 h2;omega
theorem gS{ms:List BA}(h:Hk ms=true):wS ByteArray.size ms<=20020:=by
 unfold Hk at h;simp only[Bool.and_eq_true,decide_eq_true_eq,Wg]at h;have hs:∀s∈ms,s.size<=2001:=by
  intro s hs;obtain⟨j,hj⟩:=List.getElem?_of_mem hs;have h1:=h.2 j (Af hj)
  cases j with
  |zero =>
   simp only[Mx,hj,Bool.and_eq_true]at h1;exact Vn h1.1
  |succ j =>
   have h2:ms[j]?=some (ms[j]'(by have:=Af hj;omega)):=gE (by have:=Af hj;omega);simp only[Mx,hj,h2,Bool.and_eq_true]at h1;exact Vn h1.1.1
 have:=eZ hs;have:=h.1;have:ms.length*2002<=10*2002:=Nat.mul_le_mul_right _ h.1;omega
theorem Yh{t:BA}(h:Ap t=0):t.size<=200:=by
 unfold Ap at h;by_cases c:200<t.size
 .rw[if_pos c]at h
  cases h
 omega
theorem gD{l:List Lik}(h:Dv l=true):wS Dm l<=1005:=by
 unfold Dv at h;simp only[Bool.and_eq_true,decide_eq_true_eq,List.all_eq_true]at h;have hs:∀x∈l,Dm x<=200:=by
  intro x hx;have h1:=h.2 x hx;simp only[Gf,Bool.and_eq_true,decide_eq_true_eq]at h1;exact Yh h1.1
 have:=eZ hs;have:l.length*201<=5*201:=Nat.mul_le_mul_right _ h.1;omega
theorem Ws{s:BA}(h:Cb s=true):s.size<=1000:=by
 unfold Cb at h;simp only[Bool.or_eq_true,decide_eq_true_eq]at h;rcases h with h|h
 .omega
 exact Co h
theorem Wp{α:Type}{f:α->BA}{l:List α}{s:BA}{k n:Nat}(hn:∀x∈l,P.nameOk (f x)=true)(h:Ar (l.map f) s n=some k):s.size<=1000:=by
 obtain⟨_,hs⟩:=Gq h;obtain⟨b,h1,h2⟩:=Tx hs;rw[<-h2];exact Co (hn b (List.mem_of_getElem? h1))
theorem gU{x:Flt}(h:Bb x=true):Ei x<=1048576:=by
 unfold Bb at h;simp only[Bool.and_eq_true,Dn,En,Cc,Br,Hr,decide_eq_true_eq]at h;obtain⟨⟨⟨h0,h01⟩,h02⟩,⟨⟨h1,h11⟩,h12⟩,h2,_,h3,_⟩:=h;have nb:∀b∈x.berths,P.nameOk b.name=true:=λb hb=>by
  obtain⟨j,hj⟩:=List.getElem?_of_mem hb;exact((Ln _ _).1 h1 j b hj).1
 have ns:∀b∈x.services,P.nameOk b.name=true:=λb hb=>by
  obtain⟨j,hj⟩:=List.getElem?_of_mem hb;exact((Ln _ _).1 h11 j b hj).1
 have wb:∀b∈x.berths,Cn b<=22020:=λb hb=>by
  obtain⟨j,hj⟩:=List.getElem?_of_mem hb;have h4:=h2 j b hj;simp only[Gk,Bool.and_eq_true,inR,decide_eq_true_eq]at h4;have q1:=Co (nb b hb);have q2:=Co h4.1.1.1;have q3:=gS h4.2;unfold Cn;omega
 have ws:∀b∈x.services,Dj b<=1000:=λb hb=>Co (ns b hb)
 have wc:∀c∈x.copies,Cr c<=6205:=λc hc=>by
  obtain⟨j,hj⟩:=List.getElem?_of_mem hc;have q0:=Co ((Ln _ _).1 h12 j c hj).1;have h4:=h3 j c hj;simp only[Gn,Cj,Bool.and_eq_true,Bool.or_eq_true,decide_eq_true_eq]at h4;obtain⟨⟨h7,h5⟩,h6⟩:=h4;obtain⟨s,hs⟩:=Option.isSome_iff_exists.1 h7;have q1:=Wp ns hs;have q2:c.at_.size<=1000:=by
   rcases h5 with h5|h5
   .obtain⟨s,hs⟩:=Option.isSome_iff_exists.1 h5
    exact Wp nb hs
   omega
  have q3:=Yh h6.1.1.1.1.2;have q4:=gD h6.1.1.1.2;have q5:=Ws h6.1.2;have q6:=Ws h6.2;unfold Cr;omega
 have s1:=eZ wb;have s2:=eZ ws;have s3:=eZ wc;have m1:x.berths.length*22021<=12*22021:=Nat.mul_le_mul_right _ h0;have m2:x.services.length*1001<=30*1001:=Nat.mul_le_mul_right _ h01;have m3:x.copies.length*6206<=60*6206:=Nat.mul_le_mul_right _ h02;unfold Ei;omega
end Go.Proofs.YthboopnmbglkjaaGreat
