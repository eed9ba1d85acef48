import Derived.Test.YthboopnmbglkjaaGreatTk0
import Derived.Handy
import Derived.OwnWalk
import Derived.BigQuiet
import Derived.Lib.QuietBelow
import Derived.Deep.DeepCutAuto
set_option maxHeartbeats 1000000
namespace Go.Proofs.YthboopnmbglkjaaGreat
open Go.RowKit Tryz
theorem Ab{a b:Bool}(h:a=b):Ending.returned (.bool a)=.returned (.bool b):=by rw[h]
theorem Al{k:IntKind}{a b:Int}(h:a=b):Ending.returned (.int k a)=.returned (.int k b):=by rw[h]
def Keeps(lo:Nat)(w w':World):Prop:=w.heap.size<=w'.heap.size/\∀b o,lo<=b->b<w.heap.size->w'.cell? (E b o)=w.cell? (E b o)/\w'.frozen? (E b o)=w.frozen? (E b o)
theorem Keeps.refl(lo:Nat)(w:World):Keeps lo w w:=⟨Nat.le_refl _,λ_ _ _ _=>⟨rfl,rfl⟩⟩
theorem Keeps.trans{lo:Nat}{a b c:World}(h:Keeps lo a b)(k:Keeps lo b c):Keeps lo a c :=
 ⟨Nat.le_trans h.1 k.1,λx o h1 h2=>⟨(k.2 x o h1 (Nat.lt_of_lt_of_le h2 h.1)).1.trans (h.2 x o h1 h2).1,(k.2 x o h1 (Nat.lt_of_lt_of_le h2 h.1)).2.trans (h.2 x o h1 h2).2⟩⟩
theorem Keeps.of_below{w w':World}{B:Nat}(h:Below B w w')(hB:w.heap.size<=B)(lo:Nat):Keeps lo w w' :=
 ⟨h.size,λb o _ h2=>⟨h.cell (p:=(E b o)) (Nat.lt_of_lt_of_le h2 hB),h.frozen (p:=(E b o)) (Nat.lt_of_lt_of_le h2 hB)⟩⟩
theorem Keeps.set{lo:Nat}{w:World}{a:Addr}(h:a.block<lo)(v:Value):Keeps lo w (w.setCell a v):=by
 refine⟨by simp[World.setCell],λb o h1 _=>?_⟩;exact⟨World.cell?_of_block (w:=w) (a:=(E b o)) (Below.heap_setCell w a v b (by show b≠a.block;omega)),World.frozen?_setCell _ _ _ _⟩
theorem Keeps.setCells{lo b:Nat}(h:b<lo):∀(vs:List Value)(o:Nat)(w:World),Keeps lo w (w.setCells b o vs)
 |[],_,w=>Keeps.refl lo w
 |v::r,o,_=>(Keeps.set (a:=(E b o)) h v).trans (Keeps.setCells h r (o+1) _)
theorem Ae{B b:Nat}{a:World}(hp:B<=b):∀(vs:List Value)(o:Nat)(w:World),Below B a w->Below B a (w.setCells b o vs)
 |[],_,_,h=>h
 |v::r,o,_,h=>Ae hp r (o+1) _ (h.setCell (p:=(E b o)) hp v)
theorem Be{b:Nat}:∀(vs:List Value)(o:Nat)(w:World),(w.setCells b o vs).heap.size=w.heap.size
 |[],_,_=>rfl
 |v::r,o,w=>(Be r (o+1) _).trans (by simp[World.setCell])
theorem Am(w:World)(b o:Nat):w.rangeAt b o []:=λj v h=>by simp at h
theorem Aa{w:World}{b o:Nat}{v:Value}{vs:List Value}(h:w.cell? (E b o)=some v)(t:w.rangeAt b (o+1) vs):w.rangeAt b o (v::vs)
 |0,u,hu=>by simp at hu;subst hu;exact h
 |j+1,u,hu=>by
  simp at hu;have:=t j u hu;rw[show o+(j+1)=o+1+j by omega];exact this
theorem Fa(w:World)(b o:Nat):w.there b o 0:=λj h=>by omega
theorem Ah{w:World}{b o n:Nat}{v:Value}(h:w.cell? (E b o)=some v)(f:w.frozen? (E b o)=false)(t:w.there b (o+1) n):w.there b o (n+1)
 |0,_=>⟨by simp[h],by simpa using f⟩
 |j+1,hj=>by
  have:=t j (by omega);rw[show o+(j+1)=o+1+j by omega];exact this
theorem Oa{w:World}{b i:Nat}{pre vs:List Value}(h:w.rangeAt b 0 pre)(hi:pre.length=i)(t:w.there b i vs.length):(w.setCells b i vs).rangeAt b 0 (pre++vs):=by
 intro j v hj;by_cases hlt:j<pre.length
 .rw[List.getElem?_append_left hlt]at hj
  have:=World.rangeAt_setCells_apart h b i vs (.inr (.inl (by omega)));exact this j v hj
 rw[List.getElem?_append_right (by omega)]at hj;have:=World.rangeAt_setCells_same w b i vs t (j-pre.length) v hj;rw[show 0+j=i+(j-pre.length) by omega];exact this
theorem Ay{P:Program}{fn:Func}{p:Tmp}{ty:TypeId}(h:fn.results=#[.cell p ty])(tmps:Array Value)(w:World)(g:Nat)(cs:List Value)(d:TypeDesc)(hp:tmps.getD p undef=pP g 0)(hc:w.rangeAt g 0 cs)(hu:P.underlying ty=some d)(hd:d.isRow=true)(hi:(P.info? ty).map (·.size)=some cs.length) :
  (results fn tmps).run P w=.ok (.agg cs.toArray) w:=by
 have hp':tmps[p]?.getD undef=pP g 0:=by simpa using hp
 simp[results,h,hp',asAddr,run_loadVar_mid w g 0 ty cs d hc hu hd hi]
theorem Ai{P:Program}{ops:Array Oper}{rest:List Oper}{op:Oper}{a:Act}{w:World}{Q:Exit->Act->World->Prop}(hgd:op.guard=none)(ty:TypeId)(x y:Operand)(ho:op.op=.store ty x y)(b o:Nat)(cells:Array Value)(hx:a.eval x=pP b o)(hy:a.eval y=.agg cells)(ht:w.there b o cells.size)(hi:(P.info? ty).map (·.size)=some cells.size)(h1:cells.all (·.oneCell')=true)(w':World)(hw:w'=w.setCells b o cells.toList)(h:wpList P ops Q rest (a.put op.dst undef) w'):wpList P ops Q (op::rest) a w:=by
 subst hw;exact wpList_store_mid hgd ty x y ho b o cells hx hy ht hi h1 h
abbrev Eh(α:Type):=Nat->World->(Nat->Option Value)->α->Prop
def Eu{α:Type}(C:Eh α)(n:Nat):Prop :=
 ∀(lo lo':Nat)(w w':World)(f g:Nat->Option Value)(x:α),(∀i,i<n->g i=f i)->Keeps lo w w'->lo'<=lo->C lo w f x->C lo' w' g x
def SliceC{α:Type}(C:Eh α)(n lo:Nat)(w:World)(a:OA)(xs:List α):Prop :=
 xs.length<=maxLen/\(xs=[]\/∃b o,a=(O b o)/\(lo<=b/\(0<lo->∀p,w.frozen? (E b p)=false))/\b<w.heap.size/\∀j x,xs[j]?=some x->C lo w (λi=>w.cell? (E b (o+j*n+i))) x)
theorem SliceC.keep{α:Type}{C:Eh α}{n lo lo':Nat}{w w':World}{a:OA}{xs:List α}(h:SliceC C n lo w a xs)(hC:Eu C n)(k:Keeps lo w w')(hl:lo'<=lo):SliceC C n lo' w' a xs:=by
 refine⟨h.1,?_⟩;rcases h.2 with h|⟨b,o,rfl,⟨h1,hf⟩,h2,h3⟩
 .exact .inl h
 refine .inr ⟨b,o,rfl,⟨by omega,λhp p=>(k.2 b p h1 h2).2.trans (hf (by omega) p)⟩,Nat.lt_of_lt_of_le h2 k.1,λj x hj=>hC lo lo' w w' _ _ x (λi _=>(k.2 b _ h1 h2).1) k hl (h3 j x hj)⟩
theorem SliceC.below{α:Type}{C:Eh α}{n lo:Nat}{w w':World}{a:OA}{xs:List α}(h:SliceC C n lo w a xs)(hC:Eu C n){B:Nat}(hb:Below B w w')(hB:w.heap.size<=B):SliceC C n lo w' a xs :=
 h.keep hC (Keeps.of_below hb hB lo) nL
theorem SliceC.nil{α:Type}{C:Eh α}{n lo:Nat}{w:World}{a:OA}:SliceC C n lo w a []:=⟨Nat.zero_le _,.inl rfl⟩
theorem SliceC.at{α:Type}{C:Eh α}{n lo:Nat}{w:World}{a:OA}{xs:List α}(h:SliceC C n lo w a xs){k:Nat}{x:α}(hk:xs[k]?=some x) :
  ∃b o,a=(O b o)/\lo<=b/\b<w.heap.size/\C lo w (λi=>w.cell? (E b (o+k*n+i))) x:=by
 rcases h.2 with h|⟨b,o,rfl,⟨h1,_⟩,h2,h3⟩
 .subst h;simp at hk
 exact⟨b,o,rfl,h1,h2,h3 k x hk⟩
theorem SliceC.frz{α:Type}{C:Eh α}{n lo:Nat}{w:World}{b o:Nat}{xs:List α}(h:SliceC C n lo w (O b o) xs)(hne:xs≠[])(hl:0<lo)(p:Nat):w.frozen? (E b p)=false:=by
 rcases h.2 with h|⟨b',o',e,⟨_,hf⟩,_,_⟩
 .exact absurd h hne
 cases e
 exact hf hl p
theorem Af{α:Type}{l:List α}{k:Nat}{x:α}(h:l[k]?=some x):k<l.length:=by
 rcases Nat.lt_or_ge k l.length with h'|h'
 .exact h'
 rw[List.getElem?_eq_none h']at h;cases h
def Cv:List Value->Nat->List Value->List Value
 |cs,_,[]=>cs
 |cs,o,v::vs=>Cv (cs.set o v) (o+1) vs
theorem Ky:∀(vs:List Value)(cs:List Value)(o i:Nat),(i<o\/o+vs.length<=i)->(Cv cs o vs)[i]?=cs[i]?
 |[],_,_,_,_=>rfl
 |v::vs,cs,o,i,h=>by
  rw[Cv,Ky vs _ _ _ (by simp at h;omega),List.getElem?_set_ne (by simp at h;omega)]
theorem Sc:∀(vs:List Value)(cs:List Value)(o j:Nat),o+vs.length<=cs.length->j<vs.length->(Cv cs o vs)[o+j]?=vs[j]?
 |[],_,_,j,_,h=>by simp at h
 |v::vs,cs,o,0,h,_=>by
  simp at h;rw[Cv,Ky vs _ _ _ (by omega),Nat.add_zero,List.getElem?_set_self (by omega)];rfl
 |v::vs,cs,o,j+1,h,hj=>by
  simp at h hj;rw[Cv,show o+(j+1)=o+1+j by omega,Sc vs _ _ _ (by simp;omega) hj];simp
def RowC{α:Type}(C:Eh α)(n lo:Nat)(w:World)(cs:List Value)(xs:List α)(k:Nat):Prop :=
 ∀j x,j<k->xs[j]?=some x->C lo w (λi=>cs[j*n+i]?) x
theorem RowC.keep{α:Type}{C:Eh α}{n lo:Nat}{w w':World}{cs:List Value}{xs:List α}{k:Nat}(h:RowC C n lo w cs xs k)(hC:Eu C n)(kp:Keeps lo w w'):RowC C n lo w' cs xs k :=
 λj x hj hx=>hC lo lo w w' _ _ x (λ_ _=>rfl) kp nL (h j x hj hx)
theorem RowC.step{α:Type}{C:Eh α}{n lo:Nat}{w:World}{cs vs:List Value}{xs:List α}{k:Nat}{x:α}(h:RowC C n lo w cs xs k)(hC:Eu C n)(hk:xs[k]?=some x)(hv:vs.length=n)(hl:k*n+n<=cs.length)(hx:C lo w (λi=>vs[i]?) x) :
  RowC C n lo w (Cv cs (k*n) vs) xs (k+1):=by
 intro j y hj hy;by_cases e:j=k
 .subst e
  rw[hk]at hy;cases hy
  exact hC lo lo w w _ _ _ (λi hi=>Sc vs cs (j*n) i (by omega) (by omega)) (Keeps.refl _ _) nL hx
 refine hC lo lo w w _ _ _ (λi hi=>Ky vs cs (k*n) _ (.inl ?_)) (Keeps.refl _ _) nL (h j y (by omega) hy);have:(j+1)*n<=k*n:=Nat.mul_le_mul_right n (by omega);rw[Nat.add_mul]at this;omega
theorem Ak{w w':World}{base:Nat}{e:TypeId}{size:Nat}{v:Value}{n:Nat}{xs:List Value}(h:w.ownsRow base e size v n xs)(hb:bW w w'):w'.ownsRow base e size v n xs:=by
 refine⟨h.1,?_⟩;rcases h.2 with h'|⟨g,cap,cur,h1,h2,h3,h4⟩
 .exact .inl h'
 refine .inr ⟨g,cap,cur,h1,h2,?_,h4⟩
 rw[hb.block g (by
  rcases Nat.lt_or_ge g w.heap.size with h|h
  .exact h
  rw[Array.getElem?_eq_none h]at h3;cases h3)]
 exact h3
theorem Dr{base:Nat}{e:TypeId}{size g len cap:Nat}:∀(vs cs:List Value)(o:Nat)(w:World),w.ownsRow base e size (sP g 0 len cap) len cs->(w.setCells g o vs).ownsRow base e size (sP g 0 len cap) len (Cv cs o vs)
 |[],_,_,_,h=>h
 |v::r,_,o,_,h=>Dr r _ (o+1) _ (h.stored o v).1
theorem Dg{base:Nat}{e:TypeId}{size g len cap:Nat}{cs:List Value}{w:World}(h:w.ownsRow base e size (sP g 0 len cap) len cs){o n:Nat}(hn:o+n<=cs.length):w.there g o n:=by
 intro j hj;have hl:cs.length=len*size:=h.1;refine⟨?_,h.frozenAt (o+j)⟩;rw[h.cellAt (o+j) (by omega),List.getElem?_eq_getElem (by omega)];rfl
theorem Fg{α:Type}{C:Eh α}{n lo lo':Nat}{w:World}{B g:Nat}{e:TypeId}{xs:List α}{cs:List Value}(h:w.ownsRow B e n (sP g 0 xs.length xs.length) xs.length cs)(hf:RowC C n lo w cs xs xs.length)(hC:Eu C n)(hm:xs.length<=maxLen)(hlo:lo'<=lo)(hg:lo'<=g):SliceC C n lo' w (O g 0) xs:=by
 refine⟨hm,.inr ⟨g,0,rfl,⟨hg,λ_ p=>h.frozenAt p⟩,(h.lt g rfl).2,λj x hj=>?_⟩⟩;have hlt:=Af hj;refine hC lo lo' w w _ _ x (λi hi=>?_) (Keeps.refl _ _) hlo (hf j x hlt hj);have hl:cs.length=xs.length*n:=h.1;have:(j+1)*n<=xs.length*n:=Nat.mul_le_mul_right n (by omega);rw[Nat.add_mul]at this;simpa using h.cellAt (j*n+i) (by omega)
def szR(n:Nat)(L:Int):Int:=if (n:Int)<=L then L-n else -1
theorem Ha{n:Nat}{L:Int}(h:(n:Int)<=L):szR n L=L-n:=if_pos h
theorem Gz{n:Nat}{L:Int}(h:¬(n:Int)<=L):szR n L=-1:=if_neg h
theorem Hid.intro{p:Prop}(h:p):Hid p:=h
def wS{α:Type}(f:α->Nat)(xs:List α):Nat:=xs.length+(xs.map f).sum
theorem Eg{α:Type}(f:α->Nat):∀(xs:List α)(k:Nat)(x:α),xs[k]?=some x->((xs.take (k+1)).map f).sum=((xs.take k).map f).sum+f x
 |[],_,_,h=>by simp at h
 |y::r,0,x,h=>by simp at h;subst h;simp
 |y::r,k+1,x,h=>by
  simp at h;have:=Eg f r k x h;simp at this⊢;omega
theorem Df{α:Type}(f:α->Nat):∀(xs:List α)(k:Nat),((xs.take k).map f).sum<=(xs.map f).sum
 |[],_=>by simp
 |y::r,0=>by simp
 |y::r,k+1=>by
  have:=Df f r k;simp only[List.take_succ_cons,List.map_cons,List.sum_cons];omega
theorem Ml{α:Type}{f:α->Nat}:∀{xs:List α} {x:α},x∈xs->f x<=wS f xs
 |[],_,h=>by cases h
 |y::r,x,h=>by
  rcases List.mem_cons.1 h with h|h
  .subst h;simp[wS];omega
  have:=Ml (f:=f) h;simp[wS]at this⊢;omega
theorem Ep{α:Type}{f:α->Nat}{xs:List α}:xs.length<=wS f xs:=by unfold wS;omega
theorem Em{W w1:World}(hb:bW W w1):(∀b o,b<W.heap.size->w1.cell? (E b o)=W.cell? (E b o))/\(∀b o,b<W.heap.size->w1.frozen? (E b o)=W.frozen? (E b o)) :=
 ⟨λb o h=>hb.cell (p:=(E b o)) h,λb o h=>hb.frozen (p:=(E b o)) h⟩
def StrC:Eh BA:=λ_ _ f s=>f 0=some (Y s)/\s.size<=maxLen
abbrev sX:=SliceC StrC 1
theorem StrC.holds:Eu StrC 1:=λ_ _ _ _ f g x h _ _ c=>⟨(h 0 (by omega)).trans c.1,c.2⟩
theorem jS(xs:List BA)(a:OA)(cap lo:Nat)(L:Int)(w:World)(hin:sX lo w a xs)(h0:0<=L)(h1:L<=1048576) :
  Calls prog 77 #[.slice a xs.length cap,X L] w (Rt (X (szR (wS ByteArray.size xs) L)) w):=by
 have hlen:=hin.1;unfold maxLen at hlen;have HI:=iH hin;clear hin;have HW:Hid (wS ByteArray.size xs=xs.length+(xs.map ByteArray.size).sum):=rfl;generalize wS ByteArray.size xs=W at *;by_cases c1:L-xs.length<0
 .go_enter func77,ntmps77
  go_wp2
  go_ret;exact⟨Al (by have:=HW.out;unfold szR;rw[if_neg (by omega)]),Below.refl _ _⟩
 go_enter func77,ntmps77
 go_wp2
 go_loopw [1,5] (λl i wr=>∃(k:Nat)(M:Int),k<=xs.length/\i=X k/\l=X M/\0<=M/\M<=1048576/\Hid (M=L-xs.length-((xs.take k).map ByteArray.size).sum)/\bW w wr) (λ_ i _=>xs.length-(intOf i).toNat)
 case atStart=>exact⟨0,_,Nat.zero_le _,rfl,rfl,by omega,by omega,by show _=_;simp,Below.refl _ _⟩
 obtain⟨k,M,hk,rfl,rfl,hM0,hM1,hM,hbel⟩:=hrel;by_cases hlt:k<xs.length
 .obtain⟨x,hx⟩:=gXe hlt
  obtain⟨b,o,rfl,_,_,hc⟩:=(HI.out.below StrC.holds hbel nL).at hx;obtain⟨r0,hsz⟩:=hc;simp only[Nat.mul_one,Nat.add_zero]at r0;unfold maxLen at hsz;have HX:Hid (((xs.take (k+1)).map ByteArray.size).sum=((xs.take k).map ByteArray.size).sum+x.size):=Eg _ _ _ _ hx;have HY:Hid (((xs.take (k+1)).map ByteArray.size).sum<=(xs.map ByteArray.size).sum):=Df _ _ _;clear hx;by_cases hr:M-x.size<0
  .go_wp2
   go_ret;refine⟨Al ?_,hbel⟩;have:=HW.out;have:=HX.out;have:=HY.out;have:=hM.out;unfold szR;rw[if_neg (by omega)]
  go_wp2
  go_roundw
  case rel =>
   refine⟨k+1,M-x.size,by omega,by go_num,rfl,by omega,by omega,?_,hbel⟩;have:=hM.out;have:=HX.out;show _=_
   omega
  simp[intOf];omega
 go_wp2
 go_ret;refine⟨Al ?_,hbel⟩;have hke:k=xs.length:=by omega
 subst hke;have h3:=hM.out;have h4:=HW.out;simp only[List.take_length]at h3;unfold szR;rw[if_pos (by omega)];omega
theorem Hc:(prog.info? 9).map (λi=>(i.zero,i.size,i.bytes))=some (some (Y ⟨#[]⟩),1,16):=by kernel_rfl
theorem iS(xs:List BA)(a:OA)(cap lo:Nat)(w:World)(hin:sX lo w a xs)(hsm0:wS ByteArray.size xs<=1048576) :
  Calls prog 86 #[.slice a xs.length cap] w λe w'=>∃g,e=.returned (sP g 0 xs.length xs.length)/\w.heap.size<=g/\sX w.heap.size w' (O g 0) xs/\bW w w':=by
 obtain⟨i0,hi,hz0,hz1,hz2⟩:=info_parts Hc;have hsm:xs.length<=1048576:=Nat.le_trans Ep hsm0;clear hsm0;have HI:=iH hin;clear hin;go_enter func86,ntmps86;go_wp2_with(at_make;refine wpList_make_full _ rfl _ _ 47 rfl w.heap.size 9 i0 _ 1 underlying47 hi hz0 hz1 .i64 .i64 _ _ xs.length rfl rfl rfl rfl (by rw[hz2];omega) (by unfold maxLen;omega) nL ?_;intro w1 hown hgrow);have hb1:bW w w1:=(Below.refl _ _).grown hgrow nL (λk h=>by cases h);generalize hX:(madeCells _ (xs.length*1)).toList=xs0 at hown;clear hX hgrow hi hz0 hz1 hz2;go_loopw [4] (λi wr=>∃(k:Nat)(cs:List Value),k<=xs.length/\i=X k/\wr.ownsRow w.heap.size 9 1 (sP w.heap.size 0 xs.length xs.length) xs.length cs/\RowC StrC 1 (w.heap.size+1) wr cs xs k/\bW w wr) (λi _=>xs.length-(intOf i).toNat)
 case atStart=>exact⟨0,xs0,Nat.zero_le _,rfl,hown,λj n h=>by omega,hb1⟩
 clear hown hb1;obtain⟨k,cs,hk,rfl,hown,hfil,hbel⟩:=hrel;by_cases hlt:k<xs.length
 .obtain⟨x,hx⟩:=gXe hlt
  obtain⟨b,o,rfl,_,_,hc⟩:=(HI.out.below StrC.holds hbel nL).at hx;obtain⟨r0,hsz⟩:=hc;simp only[Nat.mul_one,Nat.add_zero]at r0;have HN:=iH hx;have HO:=iH hown;have HF:=iH hfil;have hxl:cs.length=xs.length*1:=hown.1;obtain⟨v0,c0⟩:∃v,wr.cell? (E w.heap.size k)=some v:=⟨_,(hown.cellAt k (by omega)).trans (List.getElem?_eq_getElem (by omega))⟩;have f0:=hown.frozenAt k;have HL:=iH hxl;clear hx hown hfil hxl
  go_wp2
  go_roundw
  case rel =>
   have s0:=(HO.out.stored k (Y x)).1;refine⟨k+1,_,by omega,by go_num,s0,?_,hbel.setCell nL _⟩;have h1:=HF.out.step (vs:=[Y x]) StrC.holds HN rfl (by have:=HL.out;omega) ⟨rfl,hsz⟩;simp only[Nat.mul_one]at h1;exact h1.keep StrC.holds (Keeps.set (by show w.heap.size<_;omega) _)
  simp[intOf];omega
 have HO:=iH hown;have HF:=iH hfil;clear hown hfil
 go_wp2
 go_ret;have hke:k=xs.length:=by omega
 subst hke;exact⟨_,rfl,Nat.le_refl _,Fg HO HF StrC.holds HI.out.1 (by omega) nL,hbel⟩
theorem Uw(xs:List BA)(a a':OA)(cap cap' lo lo':Nat)(w:World)(hg:sX lo w a xs)(hh:sX lo' w a' xs)(hsm0:wS ByteArray.size xs<=1048576) :
  Calls prog 74 #[.slice a xs.length cap,.slice a' xs.length cap'] w (Rt (.bool true) w):=by
 have hsm:xs.length<=1048576:=Nat.le_trans Ep hsm0;clear hsm0;have HG:=iH hg;have HH:=iH hh;clear hg hh;go_enter func74,ntmps74
 go_wp2
 go_loopw [5] (λi wr=>∃(k:Nat),k<=xs.length/\i=X k/\bW w wr) (λi _=>xs.length-(intOf i).toNat)
 case atStart=>exact⟨0,Nat.zero_le _,rfl,Below.refl _ _⟩
 obtain⟨k,hk,rfl,hbel⟩:=hrel;by_cases hlt:k<xs.length
 .obtain⟨x,hx⟩:=gXe hlt
  obtain⟨b,o,rfl,_,_,hc⟩:=(HG.out.below StrC.holds hbel nL).at hx;obtain⟨b',o',rfl,_,_,hc'⟩:=(HH.out.below StrC.holds hbel nL).at hx;obtain⟨r0,_⟩:=hc;obtain⟨t0,_⟩:=hc';simp only[Nat.mul_one,Nat.add_zero]at r0 t0;have i0:(0:Int)<=(k:Int):=by omega
  have i1:(k:Int)<(xs.length:Int):=by omega
  clear hx;go_wp2_with fail
  go_region
  go_wp2
  go_roundw
  case rel=>exact⟨k+1,by omega,by go_num,by go_grown⟩
  simp[intOf];omega
 go_wp2
 go_ret;exact⟨rfl,hbel⟩
theorem qSl{α:Type}{C:Eh α}{n lo:Nat}{w w':World}{a:Option Addr}{xs:List α}(hC:Eu C n)(h:Hid (SliceC C n lo w a xs))(hb:bW w w'):Hid (SliceC C n lo w' a xs):=h.out.below hC hb (Nat.le_refl _)
end Go.Proofs.YthboopnmbglkjaaGreat
