import Derived.Test.YthboopnmbglkjaaGreatJ26
set_option maxHeartbeats 4000000
namespace Go.Proofs.YthboopnmbglkjaaGreat
open Tryz
set_option maxRecDepth 100000
open Go.RowKit Tryz
theorem Od:∀(vs a b:List Value)(o:Nat),a.length<=o->Cv (a++b) o vs=a++Cv b (o-a.length) vs
 |[],_,_,_,_=>rfl
 |v::vs,a,b,o,h=>by
  simp only[Cv];rw[List.set_append_right _ _ h,Od vs a _ (o+1) (by omega),show o+1-a.length=o-a.length+1 by omega]
theorem gV{base g cap n:Nat}{w:World}{e:TypeId}{s:Nat}{cs:List Value}(h:w.ownsRow base e s (sP g 0 n cap) n cs):base<=g:=by
 rcases h.2 with⟨h1,_⟩|⟨g',cap',cur,h1,h2,_⟩
 .cases h1
 cases h1;exact h2
theorem Yc{base n:Nat}{w:World}{e:TypeId}{s:Nat}{cs:List Value}{v:Value}(h:w.ownsRow base e s v n cs)(hn:v≠.slice none 0 0):∃g cap,v=sP g 0 n cap:=by
 rcases h.2 with⟨h1,_⟩|⟨g',cap',cur,h1,_⟩
 .exact absurd h1 hn
 exact⟨g',cap',h1⟩
def Lz(x:Lik):List Value:=[Y x.select,X x.weight]
def Ed:List Lik->List Value
 |[]=>[]
 |x::r=>Lz x++Ed r
theorem Ht(x:Lik):(Lz x).length=2:=rfl
theorem Km:∀xs:List Lik,(Ed xs).length=xs.length*2
 |[]=>rfl
 |x::r=>by
  have:=Km r;simp only[Ed,List.length_append,List.length_cons,Ht];omega
theorem Qk:∀(xs:List Lik)(k:Nat)(x:Lik)(j:Nat),xs[k]?=some x->j<2->(Ed xs)[k*2+j]?=(Lz x)[j]?
 |[],_,_,_,h,_=>by simp at h
 |y::r,0,x,j,h,hj=>by
  simp at h;subst h;simp only[Ed];rw[List.getElem?_append_left (by rw[Ht];omega)];simp
 |y::r,k+1,x,j,h,hj=>by
  simp at h;simp only[Ed];rw[List.getElem?_append_right (by rw[Ht];omega),Ht,show(k+1)*2+j-2=k*2+j by omega];exact Qk r k x j h hj
theorem Wn:∀(xs:List Lik)(k:Nat)(x:Lik),xs[k]?=some x->Cv (Ed xs) (k*2) (Lz x)=Ed xs
 |[],_,_,h=>by simp at h
 |z::r,0,x,h=>by
  simp at h;subst h;rfl
 |z::r,k+1,x,h=>by
  simp at h;simp only[Ed];rw[Od _ _ _ _ (by rw[Ht];omega),Ht,show(k+1)*2-2=k*2 by omega,Wn r k x h]
theorem Rx:∀(xs:List Lik),∀u∈Ed xs,u.oneCell'=true
 |[],u,h=>by cases h
 | x::r,u,h=>by
  simp only[Ed,List.mem_append]at h;rcases h with h|h
  .have:∀v∈Lz x,v.oneCell'=true:=by
    intro v hv;simp only[Lz,List.mem_cons,List.not_mem_nil,or_false]at hv;rcases hv with rfl|rfl<;>rfl
   exact this u h
  exact Rx r u h
theorem fX{lo:Nat}{w:World}{f:Nat->Option Value}{x:Lik}(h:LikC lo w f x)(j:Nat)(v:Value)(hv:(Lz x)[j]?=some v):f j=some v:=by
 obtain⟨q0,q1,_⟩:=h;have hj:j<2:=Af hv;have hc:j=0\/j=1:=by omega
 rcases hc with rfl|rfl<;>(cases hv;assumption)
theorem eF{lo:Nat}{w:World}{f:Nat->Option Value}{x:Lik}(h:∀j v,(Lz x)[j]?=some v->f j=some v)(z0:x.select.size<=maxLen):LikC lo w f x :=
 ⟨h 0 _ rfl,h 1 _ rfl,z0⟩
theorem yB{lo:Nat}{w:World}{b o:Nat}{xs:List Lik}(h:sK lo w (O b o) xs)(j:Nat)(u:Value)(hu:(Ed xs)[j]?=some u):w.cell? (((E b o):Addr).add j)=some u:=by
 have hl:j<xs.length*2:=by have:=Af hu;rwa [Km]at this
 obtain⟨x,hx⟩:∃x,xs[j/2]?=some x:=⟨xs[j/2]'(by omega),gE (by omega)⟩;obtain⟨b',o',e,_,_,hc⟩:=h.at hx;cases e
 rw[show j=j/2*2+j%2 by omega,Qk xs (j/2) x (j%2) hx (by omega)]at hu;have:=fX hc (j%2) u hu;rw[Addr.add_mid,show o+j=o+j/2*2+j%2 by omega];exact this
def Yy(xs:List Lik)(m:Nat):Prop:=∀x∈xs,x.select.size<=m
theorem eP{base cap:Nat}{a:OA}{w:World}{xs:List Lik}(h:w.ownsRow base 129 2 (.slice a xs.length cap) xs.length (Ed xs))(hm:xs.length<=1048576)(hz:Yy xs maxLen):sK base w a xs:=by
 rcases h.2 with⟨h1,_⟩|⟨g',cap',cur,h1,_⟩
 .have:xs.length=0:=by injection h1
  rw[List.length_eq_zero_iff.1 this];exact SliceC.nil
 have e:a=(O g' 0):=by injection h1
 subst e;refine⟨by unfold maxLen;omega,.inr ⟨g',0,rfl,⟨gV h,λ_ p=>h.frozenAt p⟩,(h.lt g' rfl).2,λk x hk=>?_⟩⟩;have hlt:=Af hk;have hzz:=hz x (List.mem_of_getElem? hk);refine eF (λj v hv=>?_) hzz;have hj:j<2:=Af hv;show w.cell? (E g' (0+k*2+j))=some v
 have:=h.cellAt (k*2+j) (by omega);rw[Nat.zero_add];rw[this,Qk xs k x j hk hj];exact hv
theorem Sy{lo:Nat}{w:World}{a:OA}{xs:List Lik}(h:sK lo w a xs):Yy xs maxLen:=by
 intro x hx;obtain⟨j,hj⟩:=List.getElem?_of_mem hx;obtain⟨_,_,_,_,_,hc⟩:=h.at hj;obtain⟨_,_,z0⟩:=hc;exact z0
def Mt(x:Svc):List Value:=[Y x.name,X x.spare]
def Ds:List Svc->List Value
 |[]=>[]
 |x::r=>Mt x++Ds r
theorem Hu(x:Svc):(Mt x).length=2:=rfl
theorem Fq:∀xs:List Svc,(Ds xs).length=xs.length*2
 |[]=>rfl
 |x::r=>by
  have:=Fq r;simp only[Ds,List.length_append,List.length_cons,Hu];omega
theorem Qm:∀(xs:List Svc)(k:Nat)(x:Svc)(j:Nat),xs[k]?=some x->j<2->(Ds xs)[k*2+j]?=(Mt x)[j]?
 |[],_,_,_,h,_=>by simp at h
 |y::r,0,x,j,h,hj=>by
  simp at h;subst h;simp only[Ds];rw[List.getElem?_append_left (by rw[Hu];omega)];simp
 |y::r,k+1,x,j,h,hj=>by
  simp at h;simp only[Ds];rw[List.getElem?_append_right (by rw[Hu];omega),Hu,show(k+1)*2+j-2=k*2+j by omega];exact Qm r k x j h hj
theorem Uk:∀(xs:List Svc)(k:Nat)(x:Svc),xs[k]?=some x->Cv (Ds xs) (k*2) (Mt x)=Ds xs
 |[],_,_,h=>by simp at h
 |z::r,0,x,h=>by
  simp at h;subst h;rfl
 |z::r,k+1,x,h=>by
  simp at h;simp only[Ds];rw[Od _ _ _ _ (by rw[Hu];omega),Hu,show(k+1)*2-2=k*2 by omega,Uk r k x h]
theorem Kn:∀(xs:List Svc),∀u∈Ds xs,u.oneCell'=true
 |[],u,h=>by cases h
 | x::r,u,h=>by
  simp only[Ds,List.mem_append]at h;rcases h with h|h
  .have:∀v∈Mt x,v.oneCell'=true:=by
    intro v hv;simp only[Mt,List.mem_cons,List.not_mem_nil,or_false]at hv;rcases hv with rfl|rfl<;>rfl
   exact this u h
  exact Kn r u h
theorem eE{lo:Nat}{w:World}{f:Nat->Option Value}{x:Svc}(h:SvcC lo w f x)(j:Nat)(v:Value)(hv:(Mt x)[j]?=some v):f j=some v:=by
 obtain⟨q0,q1,_⟩:=h;have hj:j<2:=Af hv;have hc:j=0\/j=1:=by omega
 rcases hc with rfl|rfl<;>(cases hv;assumption)
theorem dX{lo:Nat}{w:World}{f:Nat->Option Value}{x:Svc}(h:∀j v,(Mt x)[j]?=some v->f j=some v)(z0:x.name.size<=maxLen):SvcC lo w f x :=
 ⟨h 0 _ rfl,h 1 _ rfl,z0⟩
theorem Tp{lo:Nat}{w:World}{b o:Nat}{xs:List Svc}(h:sV lo w (O b o) xs)(j:Nat)(u:Value)(hu:(Ds xs)[j]?=some u):w.cell? (((E b o):Addr).add j)=some u:=by
 have hl:j<xs.length*2:=by have:=Af hu;rwa [Fq]at this
 obtain⟨x,hx⟩:∃x,xs[j/2]?=some x:=⟨xs[j/2]'(by omega),gE (by omega)⟩;obtain⟨b',o',e,_,_,hc⟩:=h.at hx;cases e
 rw[show j=j/2*2+j%2 by omega,Qm xs (j/2) x (j%2) hx (by omega)]at hu;have:=eE hc (j%2) u hu;rw[Addr.add_mid,show o+j=o+j/2*2+j%2 by omega];exact this
def Wd(xs:List Svc)(m:Nat):Prop:=∀x∈xs,x.name.size<=m
theorem fT{base cap:Nat}{a:OA}{w:World}{xs:List Svc}(h:w.ownsRow base 88 2 (.slice a xs.length cap) xs.length (Ds xs))(hm:xs.length<=1048576)(hz:Wd xs maxLen):sV base w a xs:=by
 rcases h.2 with⟨h1,_⟩|⟨g',cap',cur,h1,_⟩
 .have:xs.length=0:=by injection h1
  rw[List.length_eq_zero_iff.1 this];exact SliceC.nil
 have e:a=(O g' 0):=by injection h1
 subst e;refine⟨by unfold maxLen;omega,.inr ⟨g',0,rfl,⟨gV h,λ_ p=>h.frozenAt p⟩,(h.lt g' rfl).2,λk x hk=>?_⟩⟩;have hlt:=Af hk;have hzz:=hz x (List.mem_of_getElem? hk);refine dX (λj v hv=>?_) hzz;have hj:j<2:=Af hv;show w.cell? (E g' (0+k*2+j))=some v
 have:=h.cellAt (k*2+j) (by omega);rw[Nat.zero_add];rw[this,Qm xs k x j hk hj];exact hv
theorem gB{lo:Nat}{w:World}{a:OA}{xs:List Svc}(h:sV lo w a xs):Wd xs maxLen:=by
 intro x hx;obtain⟨j,hj⟩:=List.getElem?_of_mem hx;obtain⟨_,_,_,_,_,hc⟩:=h.at hj;obtain⟨_,_,z0⟩:=hc;exact z0
abbrev Fb(xs:List BA):List Value:=xs.map Value.string
theorem aG(xs:List BA):(Fb xs).length=xs.length*1:=by simp
theorem Za(ms:List BA):∀u∈Fb ms,u.oneCell'=true:=by
 intro u hu;obtain⟨x,_,rfl⟩:=List.mem_map.1 hu;rfl
theorem uA{ms:List BA}{j:Nat}{u:Value}(h:(Fb ms)[j]?=some u):∃s,ms[j]?=some s/\u=Y s:=by
 rw[List.getElem?_map]at h
 cases e:ms[j]? with
 |none=>rw[e]at h;cases h
 |some s=>rw[e]at h;cases h;exact⟨s,rfl,rfl⟩
theorem wZ{lo:Nat}{w:World}{b o:Nat}{xs:List BA}(h:sX lo w (O b o) xs)(j:Nat)(u:Value)(hu:(Fb xs)[j]?=some u):w.cell? (((E b o):Addr).add j)=some u:=by
 obtain⟨s,hs,rfl⟩:=uA hu;obtain⟨b',o',e,_,_,hc⟩:=h.at hs;cases e
 have:=hc.1;simp only[Nat.mul_one,Nat.add_zero]at this;rw[Addr.add_mid];exact this
def Zx(xs:List BA)(m:Nat):Prop:=∀x∈xs,x.size<=m
theorem St{lo:Nat}{w:World}{a:OA}{xs:List BA}(h:sX lo w a xs):Zx xs maxLen:=by
 intro x hx;obtain⟨j,hj⟩:=List.getElem?_of_mem hx;obtain⟨_,_,_,_,_,hc⟩:=h.at hj;exact hc.2
theorem fN{base cap:Nat}{a:OA}{w:World}{xs:List BA}(h:w.ownsRow base 9 1 (.slice a xs.length cap) xs.length (Fb xs))(hm:xs.length<=1048576)(hz:Zx xs maxLen):sX base w a xs:=by
 rcases h.2 with⟨h1,_⟩|⟨g',cap',cur,h1,_⟩
 .have:xs.length=0:=by injection h1
  rw[List.length_eq_zero_iff.1 this];exact SliceC.nil
 have e:a=(O g' 0):=by injection h1
 subst e;refine⟨by unfold maxLen;omega,.inr ⟨g',0,rfl,⟨gV h,λ_ p=>h.frozenAt p⟩,(h.lt g' rfl).2,λk x hk=>⟨?_,hz x (List.mem_of_getElem? hk)⟩⟩⟩;have hlt:=Af hk;have:=h.cellAt k (by omega);simp only[Nat.mul_one,Nat.add_zero,Nat.zero_add];rw[this,List.getElem?_map,hk];rfl
theorem Rl{P:Program}{w:World}(base:Nat)(t ty e:TypeId)(i:TypeInfo)(size c:Nat)(ht:P.underlying t=some (.slice e))(hi:P.info? e=some i)(v:Value)(n:Nat)(xs:List Value)(hown:w.ownsRow base e size v n xs) :
  (Builtin.append_ #[t,t] ty #[v,.slice none 0 c]).run P w=.ok v w:=by
 rcases hown.2 with⟨rfl,rfl⟩|⟨g,cap,cur,rfl,_,_,hnc,_⟩
 .simp[Builtin.append_,run_underlying ht,sizeOf,typeInfo,hi,Builtin.lenOf,Builtin.firstCells]
 simp[Builtin.append_,run_underlying ht,sizeOf,typeInfo,hi,Builtin.lenOf,Builtin.firstCells,hnc,storeCells]
theorem Lt{P:Program}{w:World}{ops:Array Oper}{rest:List Oper}{o:Oper}{a:Act}{Q:Exit->Act->World->Prop}(hgd:o.guard=none)(s x:Operand)(t:TypeId)(ho:o.op=.call {callee:=.builtin .append,args:=#[s,x],argTypes:=#[t,t]})(base:Nat)(e:TypeId)(i:TypeInfo)(z:Value)(size bytes:Nat)(ht:P.underlying t=some (.slice e))(hi:P.info? e=some i)(hz:i.zero=some z)(hsize:i.size=size)(hby:i.bytes=bytes)(hzs:z.cells.size=size)(hsz:0<size)(v:Value)(n:Nat)(xs:List Value)(hs:a.eval s=v)(hown:w.ownsRow base e size v n xs)(ao:OA)(m c:Nat)(news:List Value)(hx:a.eval x=.slice ao m c)(hno:ao=none->m=0)(hl:news.length=m*size)(hnews:∀ad,ao=some ad->∀j u,news[j]?=some u->w.cell? (ad.add j)=some u)(h1:∀u∈news,u.oneCell'=true)(h63:n+m<=maxLen)(hbytes:(n+m)*bytes<=140737488355328)(hbase:base<=w.heap.size)(h:∀v' w',w'.ownsRow base e size v' (n+m) (xs++news)->w.grownBy w' v.ownBlock->(v'=.slice none 0 0↔v=.slice none 0 0/\m=0)->wpList P ops Q rest (a.put o.dst v') w'):wpList P ops Q (o::rest) a w:=by
 cases ao with
 |some ad=>exact wpList_append_own w hgd s x t ho base e i z size bytes ht hi hz hsize hby hzs hsz v n xs hs hown ad m c news hx hl (hnews ad rfl) h1 h63 hbytes hbase h
 |none =>
  obtain rfl:=hno rfl;have hn:news=[]:=List.length_eq_zero_iff.1 (by omega);subst hn;have hrun:=Rl (P:=P) (w:=w) base t o.type e i size c ht hi v n xs hown;refine wpList_plain hgd λK hK=>?_
  unfold Oper.wp;simp[execOp,ho,resolve,invoke,builtin,hs,hx,hrun,Result.andThen];exact hK _ _ (h v w (by simpa using hown) ⟨rfl,rfl,rfl,Nat.le_refl _,λ_ _ _=>rfl⟩ (by simp))
theorem SliceC.nilD{α:Type}{C:Eh α}{n lo:Nat}{w:World}{a:OA}{xs:List α}(h:SliceC C n lo w a xs)(e:a=none):xs.length=0:=by
 rcases h.2 with h|⟨b,o,h,_⟩
 .rw[h];rfl
 rw[e]at h;cases h
theorem fJ{lo:Nat}{w:World}{a:OA}{xs:List BA}(h:sX lo w a xs):∀ad,a=some ad->∀j u,(Fb xs)[j]?=some u->w.cell? (ad.add j)=some u:=by
 intro ad e j u hu;rcases h.2 with h'|⟨b,o,e',_⟩
 .subst h';cases hu
 rw[e]at e';cases e';subst e;exact wZ h j u hu
theorem fH{lo:Nat}{w:World}{a:OA}{xs:List Lik}(h:sK lo w a xs):∀ad,a=some ad->∀j u,(Ed xs)[j]?=some u->w.cell? (ad.add j)=some u:=by
 intro ad e j u hu;rcases h.2 with h'|⟨b,o,e',_⟩
 .subst h';cases hu
 rw[e]at e';cases e';subst e;exact yB h j u hu
theorem tR{lo:Nat}{w:World}{a:OA}{xs:List Svc}(h:sV lo w a xs):∀ad,a=some ad->∀j u,(Ds xs)[j]?=some u->w.cell? (ad.add j)=some u:=by
 intro ad e j u hu;rcases h.2 with h'|⟨b,o,e',_⟩
 .subst h';cases hu
 rw[e]at e';cases e';subst e;exact Tp h j u hu
theorem Ek(s:BA)(w:World)(hs:s.size<=1048576) :
  Calls prog 70 #[Y s] w (Rt (Y s) w):=by
 go_enter func70,ntmps70;go_wp2_with fail;refine(Any.stringslite_Clone yN s w (by omega)).mono ?_;rintro e w1⟨rfl,hb⟩
 go_wp2
 go_ret;exact⟨rfl,hb⟩
theorem pU(x:Lik)(w:World)(z0:x.select.size<=1048576) :
  Calls prog 105 #[.agg #[Y x.select,X x.weight]] w (Rt (.agg #[Y x.select,X x.weight]) w):=by
 have hB3:=bl2 w #[Y x.select,X x.weight] 129 #[Y ⟨#[]⟩,X 0] 129;have h1:=Blk.alloc w #[Y x.select,X x.weight] 129;have HX:=iH (h1.below ((Below.refl _ _).alloc nL (Obj.cells #[Y ⟨#[]⟩,X 0] 129)) h1.lt);have HZ:=al2 w #[Y x.select,X x.weight] 129 #[Y ⟨#[]⟩,X 0] 129;clear h1;go_enter func105,ntmps105;go_upto_region 1 with fail;generalize((w.alloc (Obj.cells #[Y x.select,X x.weight] 129)).alloc (Obj.cells #[Y ⟨#[]⟩,X 0] 129))=w3 at *;have k0:w3.cell? (E w.heap.size 0)=some (Y x.select):=HX.out.cell rfl;go_wp2_with fail;refine(Ek x.select _ z0).mono ?_;rintro e w4⟨rfl,hb4⟩;have HX4:=qBk HX hb4;have HZ4:=qBk HZ hb4;have hB4:=qTr hB3 hb4;have c0:w4.cell? (E w.heap.size 0)=some (Y x.select):=HX4.out.cell rfl;have f0:=HX4.out.frozen 0;have HX5:Hid (Blk w.heap.size #[Y x.select,X x.weight] 129 (w4.setCell (E w.heap.size 0) (Y x.select))):=HX4.out.set 0 _;have HZ5:Hid (Blk (w.heap.size+1) #[Y ⟨#[]⟩,X 0] 129 (w4.setCell (E w.heap.size 0) (Y x.select))):=HZ4.out.other (a:=(E w.heap.size 0)) (show w.heap.size+1≠w.heap.size by omega) _;have hB5:bW w (w4.setCell (E w.heap.size 0) (Y x.select)):=hB4.setCell (p:=(E w.heap.size 0)) nL _;clear HX HZ hB3 hb4 k0;go_upto_region 2 with fail;clear c0 f0 HX4 HZ4 hB4;generalize w4.setCell (E w.heap.size 0) (Y x.select)=w5 at *;obtain⟨w8,HW8⟩:∃w8,Hid (w8=w5.setCells (w.heap.size+1) 0 [Y x.select,X x.weight]):=⟨_,rfl⟩;have HT:Hid (w5.there (w.heap.size+1) 0 2):=HZ5.out.there;have HR8:Hid (w8.rangeAt (w.heap.size+1) 0 [Y x.select,X x.weight]):=by
  show World.rangeAt _ _ _ _
  rw[HW8.out];exact World.rangeAt_setCells_same _ _ _ _ HT
 have hB8:bW w w8:=by
  rw[HW8.out];exact Ae (by omega) _ _ _ hB5
 go_wp2_with(first|(refine qLk rI HX5 ?_)|(refine Ai rfl 129 _ _ rfl (w.heap.size+1) 0 #[Y x.select,X x.weight] rfl rfl HT Ni (by simp[Value.oneCell']) w8 HW8 ?_));exact bodyPost_ret (Ay rfl _ _ (w.heap.size+1) [Y x.select,X x.weight] _ rfl HR8 underlying129 rfl Ni) rfl ⟨rfl,hB8⟩
theorem nS(x:Svc)(w:World)(z0:x.name.size<=1048576) :
  Calls prog 64 #[.agg #[Y x.name,X x.spare]] w (Rt (.agg #[Y x.name,X x.spare]) w):=by
 have hB3:=bl2 w #[Y x.name,X x.spare] 88 #[Y ⟨#[]⟩,X 0] 88;have h1:=Blk.alloc w #[Y x.name,X x.spare] 88;have HX:=iH (h1.below ((Below.refl _ _).alloc nL (Obj.cells #[Y ⟨#[]⟩,X 0] 88)) h1.lt);have HZ:=al2 w #[Y x.name,X x.spare] 88 #[Y ⟨#[]⟩,X 0] 88;clear h1;go_enter func64,ntmps64;go_upto_region 1 with fail;generalize((w.alloc (Obj.cells #[Y x.name,X x.spare] 88)).alloc (Obj.cells #[Y ⟨#[]⟩,X 0] 88))=w3 at *;have k0:w3.cell? (E w.heap.size 0)=some (Y x.name):=HX.out.cell rfl;go_wp2_with fail;refine(Ek x.name _ z0).mono ?_;rintro e w4⟨rfl,hb4⟩;have HX4:=qBk HX hb4;have HZ4:=qBk HZ hb4;have hB4:=qTr hB3 hb4;have c0:w4.cell? (E w.heap.size 0)=some (Y x.name):=HX4.out.cell rfl;have f0:=HX4.out.frozen 0;have HX5:Hid (Blk w.heap.size #[Y x.name,X x.spare] 88 (w4.setCell (E w.heap.size 0) (Y x.name))):=HX4.out.set 0 _;have HZ5:Hid (Blk (w.heap.size+1) #[Y ⟨#[]⟩,X 0] 88 (w4.setCell (E w.heap.size 0) (Y x.name))):=HZ4.out.other (a:=(E w.heap.size 0)) (show w.heap.size+1≠w.heap.size by omega) _;have hB5:bW w (w4.setCell (E w.heap.size 0) (Y x.name)):=hB4.setCell (p:=(E w.heap.size 0)) nL _;clear HX HZ hB3 hb4 k0;go_upto_region 2 with fail;clear c0 f0 HX4 HZ4 hB4;generalize w4.setCell (E w.heap.size 0) (Y x.name)=w5 at *;obtain⟨w8,HW8⟩:∃w8,Hid (w8=w5.setCells (w.heap.size+1) 0 [Y x.name,X x.spare]):=⟨_,rfl⟩;have HT:Hid (w5.there (w.heap.size+1) 0 2):=HZ5.out.there;have HR8:Hid (w8.rangeAt (w.heap.size+1) 0 [Y x.name,X x.spare]):=by
  show World.rangeAt _ _ _ _
  rw[HW8.out];exact World.rangeAt_setCells_same _ _ _ _ HT
 have hB8:bW w w8:=by
  rw[HW8.out];exact Ae (by omega) _ _ _ hB5
 go_wp2_with(first|(refine qLk Vf HX5 ?_)|(refine Ai rfl 88 _ _ rfl (w.heap.size+1) 0 #[Y x.name,X x.spare] rfl rfl HT Gc (by simp[Value.oneCell']) w8 HW8 ?_));exact bodyPost_ret (Ay rfl _ _ (w.heap.size+1) [Y x.name,X x.spare] _ rfl HR8 underlying88 rfl Gc) rfl ⟨rfl,hB8⟩
theorem qZ(xs:List Lik)(ad:Addr)(cap lo:Nat)(w:World)(hin:sK lo w (some ad) xs)(hsm:xs.length<=1048576) :
  Calls prog 135 #[.slice (some ad) xs.length cap] w λe w'=>∃g c,e=.returned (sP g 0 xs.length c)/\w'.ownsRow w.heap.size 129 2 (sP g 0 xs.length c) xs.length (Ed xs)/\bW w w':=by
 obtain⟨i0,hi,hz0,hz1,hz2⟩:=info_parts Xl;have q22:∀(w:World)(a:OA)(n c n' c':Nat),(binOp .eql 52 (.slice a n c) (.slice none n' c')).run prog w=.ok (.bool a.isNone) w:=λw a n c n' c'=>Lib.run_eql_slice_nil w _ _ a n c n' c' underlying52
 have HS:Hid (∀j u,(Ed xs)[j]?=some u->w.cell? (ad.add j)=some u):=fH hin ad rfl;clear hin;go_enter func135,ntmps135;go_wp2_with(at_builtin;refine wpList_append_own _ rfl _ _ 52 rfl w.heap.size 129 i0 _ 2 24 underlying52 hi hz0 hz1 hz2 rfl (by decide) _ _ _ rfl (World.ownsRow_made w #[] 0 nL (zL) rfl) ad xs.length _ (Ed xs) rfl (by rw[Km]) (λj u hj=>Lib.cell?_alloc_some _ (HS j u hj)) (Rx xs) (by unfold maxLen;omega) (by omega) (by simp) ?_;intro v' w1 hown hgrow hnil);have hv:v'≠.slice none 0 0:=λe=>by have:=(hnil.1 e).1;cases this
 have hown':w1.ownsRow w.heap.size 129 2 v' xs.length (Ed xs):=by simpa using hown
 obtain⟨g,c,rfl⟩:=Yc hown' hv;have HO:=iH hown';have hB:bW w w1:=((Below.refl _ w).alloc nL _).grown hgrow (by simp) (by intro k hk;cases hk;exact Nat.le_refl _);clear hown hgrow hnil hv hown'
 go_wp2
 go_ret;exact⟨g,c,rfl,HO,hB⟩
theorem jU(cap:Nat)(w:World) :
  Calls prog 135 #[.slice none 0 cap] w (Rt (.slice none 0 0) w):=by
 have q22:∀(w:World)(a:OA)(n c n' c':Nat),(binOp .eql 52 (.slice a n c) (.slice none n' c')).run prog w=.ok (.bool a.isNone) w:=λw a n c n' c'=>Lib.run_eql_slice_nil w _ _ a n c n' c' underlying52
 go_enter func135,ntmps135
 go_wp2
 go_ret;exact⟨rfl,Below.refl _ _⟩
theorem jV(f:Value)(cap:Nat)(w:World) :
  Calls prog 104 #[.slice none 0 cap,f] w (Rt (.slice none 0 0) w):=by
 go_enter func104,ntmps104;go_wp2_with fail;refine(jU cap _).mono ?_;rintro e w1⟨rfl,hb⟩;have HB:=iH hb;clear hb
 go_wp2
 go_loopw [11] (λi wr=>i=X 0/\bW w wr) (λi _=>0)
 case atStart=>exact⟨rfl,HB⟩
 obtain⟨rfl,hB⟩:=hrel
 go_wp2
 go_ret;exact⟨rfl,hB⟩
theorem qM(xs:List Lik)(ad:Addr)(cap lo:Nat)(w:World)(hin:sK lo w (some ad) xs)(hsm:xs.length<=1048576)(hz:Yy xs 1048576) :
  Calls prog 104 #[.slice (some ad) xs.length cap,.func (.func 105) #[] #[]] w λe w'=>∃g q,e=.returned (sP g 0 xs.length q)/\w'.ownsRow w.heap.size 129 2 (sP g 0 xs.length q) xs.length (Ed xs)/\bW w w':=by
 have HI:=iH hin;have HZ:=iH hz;clear hin hz;go_enter func104,ntmps104;go_wp2_with fail;refine(qZ xs ad cap lo _ HI hsm).mono ?_;rintro e w1⟨g,q,rfl,hO1,hB1⟩;have HO1:=iH hO1;clear hO1
 go_wp2
 go_loopw [11] (λi wr=>∃k:Nat,k<=xs.length/\i=X k/\Hid (wr.ownsRow w.heap.size 129 2 (sP g 0 xs.length q) xs.length (Ed xs))/\bW w wr) (λi _=>xs.length-(intOf i).toNat)
 case atStart=>exact⟨0,zL,rfl,HO1,hB1⟩
 clear HO1 hB1;obtain⟨k,hk,rfl,HO,hB⟩:=hrel;by_cases hlt:k<xs.length
 .obtain⟨x,hx⟩:=gXe hlt
  have HXX:=iH hx;have Z:=iH (HZ x (List.mem_of_getElem? hx));have hgl:g<wr.heap.size:=(HO.out.lt g rfl).2;have hgb:w.heap.size<=g:=gV HO;have HRA:Hid (wr.rangeAt g (k*2) [Y x.select,X x.weight]):=λj v hv=>by
   have hj:j<2:=Af hv;have h1:=HO.out.cellAt (k*2+j) (by omega);rw[Qk _ k x j hx hj]at h1;exact h1.trans hv
  clear hx;have hza:=Blk.alloc wr #[Y ⟨#[]⟩,X 0] 129;have HTS:Hid ((wr.alloc (Obj.cells #[Y ⟨#[]⟩,X 0] 129)).there wr.heap.size 0 2):=hza.there;obtain⟨w4,HW4⟩:∃w4,Hid (w4=(wr.alloc (Obj.cells #[Y ⟨#[]⟩,X 0] 129)).setCells wr.heap.size 0 [Y x.select,X x.weight]):=⟨_,rfl⟩;have HK4:Hid (Blk wr.heap.size #[Y x.select,X x.weight] 129 w4):=by
   show Blk _ _ _ _
   rw[HW4.out];exact hza.setAll #[Y x.select,X x.weight] rfl
  have hbx:bW wr w4:=by
   rw[HW4.out];exact Ae nL _ _ _ ((Below.refl _ wr).alloc nL _)
  have hB4:=qTr hB hbx;have HO4:=iH (Ak HO hbx);clear hza hbx HO hB;go_upto_region 5 with(first|(refine qLr rI HRA ?_)|(refine Ai rfl 129 _ _ rfl wr.heap.size 0 #[Y x.select,X x.weight] rfl rfl HTS Ni (by simp[Value.oneCell']) w4 HW4 ?_));clear HRA HTS HW4;go_wp2_with(first|(refine qLk rI HK4 ?_));refine(pU x _ Z).mono ?_;rintro e w5⟨rfl,hb5⟩;have HO5:=iH (Ak HO4 hb5);have hB5:=qTr hB4 hb5;clear hb5 hB4 HO4 HK4;have HT5:Hid (w5.there g (k*2) 2):=Dg HO5 (by rw[Km];omega);obtain⟨w6,HW6⟩:∃w6,Hid (w6=w5.setCells g (k*2) (Lz x)):=⟨_,rfl⟩;have HO6:Hid (w6.ownsRow w.heap.size 129 2 (sP g 0 xs.length q) xs.length (Ed xs)):=by
   have h:=Dr (Lz x) _ (k*2) _ HO5;rw[Wn xs k x HXX.out,<-HW6.out]at h;exact h
  have hB6:bW w w6:=by
   rw[HW6.out];exact Ae hgb _ _ _ hB5
  unfold Lz at HW6;clear hB5 HO5;have i0:(0:Int)<=(k:Int):=by omega
  have i1:(k:Int)<(xs.length:Int):=by omega
  go_wp2_with(first|(refine Ai rfl 129 _ _ rfl g (k*2) #[Y x.select,X x.weight] (by first|rfl|(simp[go_sem];done)) rfl HT5 Ni (by simp[Value.oneCell']) w6 HW6 ?_));go_roundw
  case rel=>exact⟨k+1,by omega,by go_num,HO6,hB6⟩
  simp[intOf];omega
 have hke:k=xs.length:=by omega
 subst hke
 go_wp2
 go_ret;exact⟨g,q,rfl,HO,hB⟩
theorem eS(xs:List Lik)(a:OA)(cap lo:Nat)(w:World)(hin:sK lo w a xs)(hsm:xs.length<=1048576)(hz:Yy xs 1048576) :
  Calls prog 104 #[.slice a xs.length cap,.func (.func 105) #[] #[]] w λe w'=>∃g q,e=.returned (.slice g xs.length q)/\w'.ownsRow w.heap.size 129 2 (.slice g xs.length q) xs.length (Ed xs)/\bW w w':=by
 cases a with
 |none =>
  have h0:xs=[]:=List.length_eq_zero_iff.1 (hin.nilD rfl);subst h0;refine(jV _ cap w).mono ?_;rintro e w1⟨rfl,hb⟩;exact⟨none,0,rfl,World.ownsRow_nil _ _ _ _,hb⟩
 |some ad =>
  refine(qM xs ad cap lo w hin hsm hz).mono ?_;rintro e w1⟨g,q,rfl,hO,hb⟩;exact⟨(O g 0),q,rfl,hO,hb⟩
theorem oZ(xs:List Svc)(ad:Addr)(cap lo:Nat)(w:World)(hin:sV lo w (some ad) xs)(hsm:xs.length<=1048576) :
  Calls prog 102 #[.slice (some ad) xs.length cap] w λe w'=>∃g c,e=.returned (sP g 0 xs.length c)/\w'.ownsRow w.heap.size 88 2 (sP g 0 xs.length c) xs.length (Ds xs)/\bW w w':=by
 obtain⟨i0,hi,hz0,hz1,hz2⟩:=info_parts Xa;have q22:∀(w:World)(a:OA)(n c n' c':Nat),(binOp .eql 29 (.slice a n c) (.slice none n' c')).run prog w=.ok (.bool a.isNone) w:=λw a n c n' c'=>Lib.run_eql_slice_nil w _ _ a n c n' c' underlying29
 have HS:Hid (∀j u,(Ds xs)[j]?=some u->w.cell? (ad.add j)=some u):=tR hin ad rfl;clear hin;go_enter func102,ntmps102;go_wp2_with(at_builtin;refine wpList_append_own _ rfl _ _ 29 rfl w.heap.size 88 i0 _ 2 24 underlying29 hi hz0 hz1 hz2 rfl (by decide) _ _ _ rfl (World.ownsRow_made w #[] 0 nL (zL) rfl) ad xs.length _ (Ds xs) rfl (by rw[Fq]) (λj u hj=>Lib.cell?_alloc_some _ (HS j u hj)) (Kn xs) (by unfold maxLen;omega) (by omega) (by simp) ?_;intro v' w1 hown hgrow hnil);have hv:v'≠.slice none 0 0:=λe=>by have:=(hnil.1 e).1;cases this
 have hown':w1.ownsRow w.heap.size 88 2 v' xs.length (Ds xs):=by simpa using hown
 obtain⟨g,c,rfl⟩:=Yc hown' hv;have HO:=iH hown';have hB:bW w w1:=((Below.refl _ w).alloc nL _).grown hgrow (by simp) (by intro k hk;cases hk;exact Nat.le_refl _);clear hown hgrow hnil hv hown'
 go_wp2
 go_ret;exact⟨g,c,rfl,HO,hB⟩
theorem kC(cap:Nat)(w:World) :
  Calls prog 102 #[.slice none 0 cap] w (Rt (.slice none 0 0) w):=by
 have q22:∀(w:World)(a:OA)(n c n' c':Nat),(binOp .eql 29 (.slice a n c) (.slice none n' c')).run prog w=.ok (.bool a.isNone) w:=λw a n c n' c'=>Lib.run_eql_slice_nil w _ _ a n c n' c' underlying29
 go_enter func102,ntmps102
 go_wp2
 go_ret;exact⟨rfl,Below.refl _ _⟩
theorem kD(f:Value)(cap:Nat)(w:World) :
  Calls prog 63 #[.slice none 0 cap,f] w (Rt (.slice none 0 0) w):=by
 go_enter func63,ntmps63;go_wp2_with fail;refine(kC cap _).mono ?_;rintro e w1⟨rfl,hb⟩;have HB:=iH hb;clear hb
 go_wp2
 go_loopw [11] (λi wr=>i=X 0/\bW w wr) (λi _=>0)
 case atStart=>exact⟨rfl,HB⟩
 obtain⟨rfl,hB⟩:=hrel
 go_wp2
 go_ret;exact⟨rfl,hB⟩
theorem pF(xs:List Svc)(ad:Addr)(cap lo:Nat)(w:World)(hin:sV lo w (some ad) xs)(hsm:xs.length<=1048576)(hz:Wd xs 1048576) :
  Calls prog 63 #[.slice (some ad) xs.length cap,.func (.func 64) #[] #[]] w λe w'=>∃g q,e=.returned (sP g 0 xs.length q)/\w'.ownsRow w.heap.size 88 2 (sP g 0 xs.length q) xs.length (Ds xs)/\bW w w':=by
 have HI:=iH hin;have HZ:=iH hz;clear hin hz;go_enter func63,ntmps63;go_wp2_with fail;refine(oZ xs ad cap lo _ HI hsm).mono ?_;rintro e w1⟨g,q,rfl,hO1,hB1⟩;have HO1:=iH hO1;clear hO1
 go_wp2
 go_loopw [11] (λi wr=>∃k:Nat,k<=xs.length/\i=X k/\Hid (wr.ownsRow w.heap.size 88 2 (sP g 0 xs.length q) xs.length (Ds xs))/\bW w wr) (λi _=>xs.length-(intOf i).toNat)
 case atStart=>exact⟨0,zL,rfl,HO1,hB1⟩
 clear HO1 hB1;obtain⟨k,hk,rfl,HO,hB⟩:=hrel;by_cases hlt:k<xs.length
 .obtain⟨x,hx⟩:=gXe hlt
  have HXX:=iH hx;have Z:=iH (HZ x (List.mem_of_getElem? hx));have hgl:g<wr.heap.size:=(HO.out.lt g rfl).2;have hgb:w.heap.size<=g:=gV HO;have HRA:Hid (wr.rangeAt g (k*2) [Y x.name,X x.spare]):=λj v hv=>by
   have hj:j<2:=Af hv;have h1:=HO.out.cellAt (k*2+j) (by omega);rw[Qm _ k x j hx hj]at h1;exact h1.trans hv
  clear hx;have hza:=Blk.alloc wr #[Y ⟨#[]⟩,X 0] 88;have HTS:Hid ((wr.alloc (Obj.cells #[Y ⟨#[]⟩,X 0] 88)).there wr.heap.size 0 2):=hza.there;obtain⟨w4,HW4⟩:∃w4,Hid (w4=(wr.alloc (Obj.cells #[Y ⟨#[]⟩,X 0] 88)).setCells wr.heap.size 0 [Y x.name,X x.spare]):=⟨_,rfl⟩;have HK4:Hid (Blk wr.heap.size #[Y x.name,X x.spare] 88 w4):=by
   show Blk _ _ _ _
   rw[HW4.out];exact hza.setAll #[Y x.name,X x.spare] rfl
  have hbx:bW wr w4:=by
   rw[HW4.out];exact Ae nL _ _ _ ((Below.refl _ wr).alloc nL _)
  have hB4:=qTr hB hbx;have HO4:=iH (Ak HO hbx);clear hza hbx HO hB;go_upto_region 5 with(first|(refine qLr Vf HRA ?_)|(refine Ai rfl 88 _ _ rfl wr.heap.size 0 #[Y x.name,X x.spare] rfl rfl HTS Gc (by simp[Value.oneCell']) w4 HW4 ?_));clear HRA HTS HW4;go_wp2_with(first|(refine qLk Vf HK4 ?_));refine(nS x _ Z).mono ?_;rintro e w5⟨rfl,hb5⟩;have HO5:=iH (Ak HO4 hb5);have hB5:=qTr hB4 hb5;clear hb5 hB4 HO4 HK4;have HT5:Hid (w5.there g (k*2) 2):=Dg HO5 (by rw[Fq];omega);obtain⟨w6,HW6⟩:∃w6,Hid (w6=w5.setCells g (k*2) (Mt x)):=⟨_,rfl⟩;have HO6:Hid (w6.ownsRow w.heap.size 88 2 (sP g 0 xs.length q) xs.length (Ds xs)):=by
   have h:=Dr (Mt x) _ (k*2) _ HO5;rw[Uk xs k x HXX.out,<-HW6.out]at h;exact h
  have hB6:bW w w6:=by
   rw[HW6.out];exact Ae hgb _ _ _ hB5
  unfold Mt at HW6;clear hB5 HO5;have i0:(0:Int)<=(k:Int):=by omega
  have i1:(k:Int)<(xs.length:Int):=by omega
  go_wp2_with(first|(refine Ai rfl 88 _ _ rfl g (k*2) #[Y x.name,X x.spare] (by first|rfl|(simp[go_sem];done)) rfl HT5 Gc (by simp[Value.oneCell']) w6 HW6 ?_));go_roundw
  case rel=>exact⟨k+1,by omega,by go_num,HO6,hB6⟩
  simp[intOf];omega
 have hke:k=xs.length:=by omega
 subst hke
 go_wp2
 go_ret;exact⟨g,q,rfl,HO,hB⟩
theorem eQ(xs:List Svc)(a:OA)(cap lo:Nat)(w:World)(hin:sV lo w a xs)(hsm:xs.length<=1048576)(hz:Wd xs 1048576) :
  Calls prog 63 #[.slice a xs.length cap,.func (.func 64) #[] #[]] w λe w'=>∃g q,e=.returned (.slice g xs.length q)/\w'.ownsRow w.heap.size 88 2 (.slice g xs.length q) xs.length (Ds xs)/\bW w w':=by
 cases a with
 |none =>
  have h0:xs=[]:=List.length_eq_zero_iff.1 (hin.nilD rfl);subst h0;refine(kD _ cap w).mono ?_;rintro e w1⟨rfl,hb⟩;exact⟨none,0,rfl,World.ownsRow_nil _ _ _ _,hb⟩
 |some ad =>
  refine(pF xs ad cap lo w hin hsm hz).mono ?_;rintro e w1⟨g,q,rfl,hO,hb⟩;exact⟨(O g 0),q,rfl,hO,hb⟩
theorem oL(xs:List BA)(ad:Addr)(cap lo:Nat)(w:World)(hin:sX lo w (some ad) xs)(hsm:xs.length<=1048576) :
  Calls prog 134 #[.slice (some ad) xs.length cap] w λe w'=>∃g c,e=.returned (sP g 0 xs.length c)/\w'.ownsRow w.heap.size 9 1 (sP g 0 xs.length c) xs.length (Fb xs)/\bW w w':=by
 obtain⟨i0,hi,hz0,hz1,hz2⟩:=info_parts Hc;have q22:∀(w:World)(a:OA)(n c n' c':Nat),(binOp .eql 47 (.slice a n c) (.slice none n' c')).run prog w=.ok (.bool a.isNone) w:=λw a n c n' c'=>Lib.run_eql_slice_nil w _ _ a n c n' c' underlying47
 have HS:Hid (∀j u,(Fb xs)[j]?=some u->w.cell? (ad.add j)=some u):=fJ hin ad rfl;clear hin;go_enter func134,ntmps134;go_wp2_with(at_builtin;refine wpList_append_own _ rfl _ _ 47 rfl w.heap.size 9 i0 _ 1 16 underlying47 hi hz0 hz1 hz2 rfl (by decide) _ _ _ rfl (World.ownsRow_made w #[] 0 nL (zL) rfl) ad xs.length _ (Fb xs) rfl (by rw[aG]) (λj u hj=>Lib.cell?_alloc_some _ (HS j u hj)) (Za xs) (by unfold maxLen;omega) (by omega) (by simp) ?_;intro v' w1 hown hgrow hnil);have hv:v'≠.slice none 0 0:=λe=>by have:=(hnil.1 e).1;cases this
 have hown':w1.ownsRow w.heap.size 9 1 v' xs.length (Fb xs):=by simpa using hown
 obtain⟨g,c,rfl⟩:=Yc hown' hv;have HO:=iH hown';have hB:bW w w1:=((Below.refl _ w).alloc nL _).grown hgrow (by simp) (by intro k hk;cases hk;exact Nat.le_refl _);clear hown hgrow hnil hv hown'
 go_wp2
 go_ret;exact⟨g,c,rfl,HO,hB⟩
theorem iN(cap:Nat)(w:World) :
  Calls prog 134 #[.slice none 0 cap] w (Rt (.slice none 0 0) w):=by
 have q22:∀(w:World)(a:OA)(n c n' c':Nat),(binOp .eql 47 (.slice a n c) (.slice none n' c')).run prog w=.ok (.bool a.isNone) w:=λw a n c n' c'=>Lib.run_eql_slice_nil w _ _ a n c n' c' underlying47
 go_enter func134,ntmps134
 go_wp2
 go_ret;exact⟨rfl,Below.refl _ _⟩
theorem kT(f:Value)(cap:Nat)(w:World) :
  Calls prog 101 #[.slice none 0 cap,f] w (Rt (.slice none 0 0) w):=by
 go_enter func101,ntmps101;go_wp2_with fail;refine(iN cap _).mono ?_;rintro e w1⟨rfl,hb⟩;have HB:=iH hb;clear hb
 go_wp2
 go_loopw [11] (λi wr=>i=X 0/\bW w wr) (λi _=>0)
 case atStart=>exact⟨rfl,HB⟩
 obtain⟨rfl,hB⟩:=hrel
 go_wp2
 go_ret;exact⟨rfl,hB⟩
theorem qR(xs:List BA)(ad:Addr)(cap lo:Nat)(w:World)(hin:sX lo w (some ad) xs)(hsm:xs.length<=1048576)(hz:Zx xs 1048576) :
  Calls prog 101 #[.slice (some ad) xs.length cap,.func (.func 70) #[] #[]] w λe w'=>∃g q,e=.returned (sP g 0 xs.length q)/\w'.ownsRow w.heap.size 9 1 (sP g 0 xs.length q) xs.length (Fb xs)/\bW w w':=by
 have HI:=iH hin;have HZ:=iH hz;clear hin hz;go_enter func101,ntmps101;go_wp2_with fail;refine(oL xs ad cap lo _ HI hsm).mono ?_;rintro e w1⟨g,q,rfl,hO1,hB1⟩;have HO1:=iH hO1;clear hO1
 go_wp2
 go_loopw [11] (λi wr=>∃k:Nat,k<=xs.length/\i=X k/\Hid (wr.ownsRow w.heap.size 9 1 (sP g 0 xs.length q) xs.length (Fb xs))/\bW w wr) (λi _=>xs.length-(intOf i).toNat)
 case atStart=>exact⟨0,zL,rfl,HO1,hB1⟩
 clear HO1 hB1;obtain⟨k,hk,rfl,HO,hB⟩:=hrel;by_cases hlt:k<xs.length
 .obtain⟨x,hx⟩:=gXe hlt
  have Z:=iH (HZ x (List.mem_of_getElem? hx));have hgl:g<wr.heap.size:=(HO.out.lt g rfl).2;have hgb:w.heap.size<=g:=gV HO;have HSE:Hid ((Fb xs).set k (Y x)=Fb xs):=by
   show _=_
   refine List.ext_getElem? (λj=>?_);by_cases e:k=j
   .subst e
    rw[List.getElem?_set_self (by simpa using hlt),List.getElem?_map,hx];rfl
   rw[List.getElem?_set_ne e]
  have c0:wr.cell? (E g k)=some (Y x):=by
   rw[HO.out.cellAt k (by omega),List.getElem?_map,hx];rfl
  clear hx;have i0:(0:Int)<=(k:Int):=by omega
  have i1:(k:Int)<(xs.length:Int):=by omega
  go_upto_region 5 with fail;clear c0;go_wp2_with fail;refine(Ek x _ Z).mono ?_;rintro e w5⟨rfl,hb5⟩;have HO5:=iH (Ak HO hb5);have hB5:=qTr hB hb5;have c5:w5.cell? (E g k)=some ((Fb xs)[k]'(by simpa using hlt)):=(HO5.out.cellAt k (by omega)).trans (gE (by simpa using hlt));have f5:=HO5.out.frozenAt k;have HO6:Hid ((w5.setCell (E g k) (Y x)).ownsRow w.heap.size 9 1 (sP g 0 xs.length q) xs.length (Fb xs)):=by
   have h:=(HO5.out.stored k (Y x)).1;rw[HSE.out]at h;exact h
  have hB6:bW w (w5.setCell (E g k) (Y x)):=hB5.setCell (p:=(E g k)) hgb _;clear hb5 hB HO HO5 hB5
  go_wp2
  go_roundw
  case rel=>exact⟨k+1,by omega,by go_num,HO6,hB6⟩
  simp[intOf];omega
 have hke:k=xs.length:=by omega
 subst hke
 go_wp2
 go_ret;exact⟨g,q,rfl,HO,hB⟩
theorem gY(xs:List BA)(a:OA)(cap lo:Nat)(w:World)(hin:sX lo w a xs)(hsm:xs.length<=1048576)(hz:Zx xs 1048576) :
  Calls prog 101 #[.slice a xs.length cap,.func (.func 70) #[] #[]] w λe w'=>∃g q,e=.returned (.slice g xs.length q)/\w'.ownsRow w.heap.size 9 1 (.slice g xs.length q) xs.length (Fb xs)/\bW w w':=by
 cases a with
 |none =>
  have h0:xs=[]:=List.length_eq_zero_iff.1 (hin.nilD rfl);subst h0;refine(kT _ cap w).mono ?_;rintro e w1⟨rfl,hb⟩;exact⟨none,0,rfl,World.ownsRow_nil _ _ _ _,hb⟩
 |some ad =>
  refine(qR xs ad cap lo w hin hsm hz).mono ?_;rintro e w1⟨g,q,rfl,hO,hb⟩;exact⟨(O g 0),q,rfl,hO,hb⟩
end Go.Proofs.YthboopnmbglkjaaGreat
